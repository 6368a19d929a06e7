import Derived.Test.YtijehnelcbdlgaaGreatW0
import Derived.Test.YtijehnelcbdlgaaGreatW7
import Derived.Test.YtijehnelcbdlgaaGreatW4
import Derived.Test.YtijehnelcbdlgaaGreatW6
namespace Go.Proofs.aE
open Go.Proofs Ab
noncomputable section
set_option maxRecDepth 100000
set_option maxHeartbeats 4000000
set_option linter.unusedVariables false
set_option linter.unusedSimpArgs false
def rM:Code:=(Tryz.f24.body).getD .skip
theorem O9:Tryz.f24.body=some rM:=by kernel_rfl
def Jk:Code:=(bz rM).getD 0 .skip
def Jl:Code:=(bz rM).getD 1 .skip
def aW (ab:List Task) (aN:List Int) (cM:Int):Nat→Int→Mi→Int×Mi
 | 0,cG,jj=>(cG,jj)
 | n8+1,cG,jj=>(bif (!((eL ab jj aN cG cM).1)) then aW ab aN cM n8 (cG+1) (eL ab jj aN cG cM).2 else (cG,(eL ab jj aN cG cM).2))
theorem rO {d:Nat} {h:ak} (cM:Int) (z0:AV) (ab:List Task) (ah:AV) (aN:List Int) (known:Mi) (ay:Int) (dL:Nat) (lG:Nat) (ct:bW h .i64 3 z0 aN) (fO:aH h ah ab) (sv:Ac ab (xU ab)) (tx:ab.length≤64) (xz:dw (iw ab) known) (O0:(∀i,i<ab.length→0≤(ab.g i).aL∧(ab.g i).aL≤100000)) (ZO:ky ab [] ay 0) (ZP:0≤ay) (aeG:ay≤100001) (bM:Tidy h) (ZQ:dL≤dL) (aeH:h.get lG=none) (aag:lG≠dL):∀(k_:Nat) (cG:Int) (jj:Mi) (_:(ab.length:Int) - cG≤(k_:Int)) (_:((dw (iw ab) (jj)∧0≤cG∧cG<(ab.length:Int))∧ky ab aN cM (cG))) (x:Nat→AV) (hh:ak) (az:Tidy hh) (aw:Has h hh) (gv:h.nx≤hh.nx) (I6:jj.length=0) (ca:hh.get dL=some (aK.cells [ah,(AV.map lG)] 81 false)) (ju:hh.get lG=some (tK jj)),bI (σ:=Int×Mi) (ρ:=Unit) (cA (d+198)) Jl ⟨((x 0)::(Zi cM)::(Pt dL)::(x 3)::(x 4)::z0::(Zi cG)::rx x 7 28 []),hh,[],.no⟩ (.exit 2) hh (fun r z y=>((y 0)::(Zi cM)::(Pt dL)::(y 3)::(y 4)::z0::(Zi r.1)::rx y 7 28 [])) (fun r z y=>((y 0)::(Zi cM)::(Pt dL)::(y 3)::(y 4)::z0::rx y 6 29 [])) (fun r z hk=>Has h hk∧hk.get dL=some (aK.cells [ah,(AV.map lG)] 81 false)∧hk.get lG=some (tK r.2)∧r.2.length=0∧(dw (iw ab) (r.2)∧0≤r.1∧r.1<(ab.length:Int))) (fun r z hk=>Has h hk) (Sum.inl (aW ab aN cM k_ cG jj))
 | 0,cG,jj,fK,dt,x,hh,az,aw,gv,I6,ca,ju=>by
   exfalso;omega
 | n8+1,cG,jj,fK,dt,x,hh,az,aw,gv,I6,ca,ju=>by
   have kK:=ct.small
   have jr:=fO.small
   have so:=az _ _ ca
   have OL:=az _ _ ju
   obtain ⟨yg,ach,aeI,aah,aai,Lw⟩:=lW az ju
   have SZ:Has h yg:=fv aw (by first | assumption | exact kg bM o!) Lw
   obtain ⟨h2,aci,eW,abT,S0,S1,aeJ⟩:=O5 (d:=d) (h:=yg) (knownN:=0) ab jj aN cG cM (fO.has SZ) (ct.has SZ) ju (mR _) aah (by first | omega | assumption | exact dt.1.1) (by first | omega | assumption | exact dt.1.1) (by first | omega | assumption | exact dt.1.1) (by first | omega | assumption | exact dt.1.1) (by first | omega | assumption | exact dt.1.1) ach az aai o!
   obtain ⟨afu,afv⟩:=we ab jj aN cG cM (by first | omega | assumption | exact dt.1.1) (by first | omega | assumption | exact dt.1.1) (by first | omega | assumption | exact dt.1.1) (by first | omega | assumption | exact dt.1.1) (by first | omega | assumption | exact dt.1.1)
   have cD:Has h h2:=(SZ.trans S0)
   rcases Bool.eq_false_or_eq_true (!((eL ab jj aN cG cM).1)) with f0 | f0
   · have w4:IntKind.i64.wrap (cG+1)=cG+1:=wrap_i64 o! o!
     exact bI.round (congrArg Sum.inl (by simp only[aW,f0,aj,af])) (pk (d+198) _ _ hh _ h2 (MM (ao 81 0 (AV.agg [ah,(AV.map lG)]) ca k!)<|CN 3<|EE aci<|CC<|BC f0<|VV (Ft 3 false true w4)<|CC<|ZZ) k!) o! _ k! (fun x=>rO cM z0 ab ah aN known ay dL lG ct fO sv tx xz O0 ZO ZP aeG bM ZQ aeH aag n8 (cG+1) (eL ab jj aN cG cM).2 (by first | omega | exact xX (by assumption) (by assumption) (by assumption) dt | exact Lv (by assumption) dt) (show ((dw (iw ab) (eL ab jj aN cG cM).2∧0≤(cG+1)∧(cG+1)<(ab.length:Int))∧ky ab aN cM (cG+1)) from (by first | omega | exact xX (by assumption) (by assumption) (by assumption) dt | exact Lv (by assumption) dt)) x h2 eW cD o! l! (S0 _ _ ((Lw _ o!).trans ca)) S1)
   · exact bI.out (cG,(eL ab jj aN cG cM).2) AV.undef (congrArg Sum.inl (by simp only[aW,f0,aj,af])) (pk (d+198) _ _ hh _ h2 (MM (ao 81 0 (AV.agg [ah,(AV.map lG)]) ca k!)<|CN 3<|EE aci<|CC<|BB f0<|ZZ) k!) eW o! ⟨cD,(S0 _ _ ((Lw _ o!).trans ca)),S1,l!,(show (dw (iw ab) (eL ab jj aN cG cM).2∧0≤cG∧cG<(ab.length:Int)) from (by first | omega | exact xX (by assumption) (by assumption) (by assumption) dt | exact Lv (by assumption) dt))⟩ k!
theorem ny {ts:List Task} {ch:List Int} {mi:Int} (A:Ac ts (xU ts)) (Ha:ts.length≤64):∀(k:Nat) (a:Int) (m:Mi),(ts.length:Int) - a≤(k:Int)→((dw (iw ts) m∧0≤a∧a<(ts.length:Int))∧ky ts ch mi a)→kO ts ch (aW ts ch mi k a m).1 mi=true
 | 0,a,m,h,i=>by have:=i.1.2.2;omega
 | k+1,a,m,h,i=>by
   obtain ⟨ld,lq⟩:=we ts m ch a mi i.1.2.1 i.1.2.2 A Ha i.1.1
   rw[aW]
   cases c:(eL ts m ch a mi).1 with
   | true=>rw[Bool.not_true,af,←ld];exact c
   | false=>
     have st:=xX lq ld (by rw[c];rfl) i
     rw[Bool.not_false,aj]
     exact ny A Ha k (a+1) _ o! st
theorem ux {ts:List Task} {m:Mi} {a mi:Int} {ch:List Int} (iv:dw (iw ts) m∧0≤a∧a<(ts.length:Int)) (o:CJ ts ch mi):(dw (iw ts) m∧True)∧CJ ts ch mi:=⟨⟨iv.1,trivial⟩,o⟩
def et (ab:List Task):Nat→Int→List Int→Mi→List Int×Mi
 | 0,cM,aN,ba=>(aN,ba)
 | c7+1,cM,aN,ba=>(bif (decide (((aN.length:Nat):Int)=0)) then et ab c7 (IntKind.i64.wrap (cM -((ab.g (aW ab aN cM ((ab.length:Int) - 0).toNat 0 ba).1.toNat).aL))) (aN++[(aW ab aN cM ((ab.length:Int) - 0).toNat 0 ba).1]) (aW ab aN cM ((ab.length:Int) - 0).toNat 0 ba).2 else (bif (decide (0<cM)) then et ab c7 (IntKind.i64.wrap (cM -((ab.g (aW ab aN cM ((ab.length:Int) - 0).toNat 0 ba).1.toNat).aL))) (aN++[(aW ab aN cM ((ab.length:Int) - 0).toNat 0 ba).1]) (aW ab aN cM ((ab.length:Int) - 0).toNat 0 ba).2 else (aN,ba)))
theorem rP {d:Nat} {h:ak} {gg0:ak} (ab:List Task) (ah:AV) (known:Mi) (ay:Int) (bh:Nat) (dg:Nat) (aO:aH h ah ab) (gM:Ac ab (xU ab)) (iS:ab.length≤64) (rH:dw (iw ab) known) (uR:(∀i,i<ab.length→0≤(ab.g i).aL∧(ab.g i).aL≤100000)) (Le:ky ab [] ay 0) (Lf:0≤ay) (acj:ay≤100001) (bM:Tidy h) (pT:h.nx≤bh) (yX:h.get dg=none) (oV:dg≠bh) (NG0:h.nx≤gg0.nx) (Ep:bh<gg0.nx) (Er:dg<gg0.nx):∀(k_:Nat) (cM:Int) (aN:List Int) (ba:Mi) (z0:AV) (_:GA ab aN≤(k_:Int)) (_:((dw (iw ab) (ba)∧True)∧CJ ab (aN) (cM))) (x:Nat→AV) (hh:ak) (az:Tidy hh) (aw:Has h hh) (gv:h.nx≤hh.nx) (ng:ba.length=0) (aM:hh.get bh=some (aK.cells [ah,(AV.map dg)] 81 false)) (cS:hh.get dg=some (tK ba)) (G9:dc 3 gg0 hh z0 (zs .i64 aN)) (XB:aN.length≤1000000000) (zX:gg0.nx≤hh.nx),bI (σ:=List Int×Mi) (ρ:=Unit) (cA (d+198)) Jk ⟨((x 0)::(Zi cM)::(Pt bh)::(x 3)::(x 4)::z0::rx x 6 29 []),hh,[],.no⟩ (.exit 0) hh (fun r z y=>((y 0)::(y 1)::(Pt bh)::(y 3)::(y 4)::z::rx y 6 29 [])) (fun r z y=>((y 0)::(y 1)::(Pt bh)::rx y 3 32 [])) (fun r z hk=>Has h hk∧hk.get bh=some (aK.cells [ah,(AV.map dg)] 81 false)∧hk.get dg=some (tK r.2)∧r.2.length=0∧(dw (iw ab) (r.2)∧True)∧dc 3 gg0 hk z (zs .i64 r.1)∧r.1.length≤1000000000) (fun r z hk=>Has h hk) (Sum.inl (et ab k_ cM aN ba))
 | 0,cM,aN,ba,z0,fK,dt,x,hh,az,aw,gv,ng,aM,cS,G9,XB,zX=>by
   have bY:=aO.small
   have jh:=az _ _ aM
   have Az:=az _ _ cS
   have lf_:=xW ab aN
   have ol_:=Jh iS dt.2
   have dx:bJ (some (.slice 3)) (some z0)=some (Zn aN.length):=(dc.zs G9 o! k! k!).len
   have q2:(decide (((aN.length:Nat):Int)=0))=false:=d!
   have q3:(decide (0<cM))=false:=d!
   exact bI.out (aN,ba) z0 rfl (pk (d+198) _ _ hh _ hh (CC<|VV dx<|VV (f_ 3 false true .i64 ((aN.length:Nat):Int) 0)<|CC<|BC q2<|BV q2 (bK 3 false true .i64 cM 0)<|VV (bf (a:=some (AV.bool true)) (b:=some (AV.bool (decide (0<cM)))) q2)<|BB q3<|ZZ) k!) az o! ⟨aw,aM,cS,l!,(show (dw (iw ab) (ba)∧True) from (by first | omega | exact ⟨dt.1.1,trivial⟩ | (have S2:=lz gM iS uR (ny (ts:=ab) (ch:=aN) (mi:=cM) gM iS ((ab.length:Int) - 0).toNat 0 ba o! (od dt o!)) o! o! dt.2 o!;first | omega | exact ux (by assumption) S2.2))),G9,(by first | omega | (simp<;>omega))⟩ k!
 | c7+1,cM,aN,ba,z0,fK,dt,x,hh,az,aw,gv,ng,aM,cS,G9,XB,zX=>by
   have bY:=aO.small
   have jh:=az _ _ aM
   have Az:=az _ _ cS
   have lf_:=xW ab aN
   have ol_:=Jh iS dt.2
   have dx:bJ (some (.slice 3)) (some z0)=some (Zn aN.length):=(dc.zs G9 o! k! k!).len
   rcases Bool.eq_false_or_eq_true (decide (((aN.length:Nat):Int)=0)) with f0 | f0
   · have fw:=of_decide_eq_true f0
     obtain ⟨hw_,aaj,ack,S3,S4,Jm⟩:=lW az cS
     have S5:Has h hw_:=fv aw yX Jm
     have S6:=G9.keq Jm Er
     obtain ⟨zo5,VU,h4,gI,nh,Dk,sc,zh,Gy,Lg,mU⟩:=bI.n rfl (rO (d:=d) (h:=hw_) cM z0 ab ah aN known ay bh dg (dc.zs S6 o! k! k!) (aO.has S5) (by assumption) o! o! (by assumption) o! o! o! aaj o! S3 o! ((ab.length:Int) - 0).toNat 0 ba o! (show ((dw (iw ab) (ba)∧0≤0∧0<(ab.length:Int))∧ky ab aN cM (0)) from (od dt o!)) (fun k_=>(((x 0)::(Zi cM)::(Pt bh)::(x 3)::(x 4)::z0::(Zi 0)::z0::(Zn aN.length)::(AV.bool (decide (((aN.length:Nat):Int)=0)))::(AV.bool (decide (((aN.length:Nat):Int)=0)))::AV.undef::AV.undef::(AV.bool true)::rx x 14 21 []):List AV).getD k_ AV.undef) hh az S4 o! l! aM cS)
     have lI:Has h h4:=S5.trans sc
     obtain ⟨h6,oX,mD,IY,tC,kX⟩:=ik nh (aK.cells [(Zi (aW ab aN cM ((ab.length:Int) - 0).toNat 0 ba).1)] 3 false)
     have kW:Has h h6:=lI.trans kX
     have adf:Has h4 h6:=kX
     obtain ⟨z8,h7,acm,eP,VP,Wj,oz9⟩:=dc.VN (k:= .i64) (g:=gg0) (tys:= #[26,26]) (v:=((aW ab aN cM ((ab.length:Int) - 0).toNat 0 ba).1)) (L:=aN) mD o! (S6.has (sc.trans kX)) tC (by first | omega | (simp<;>omega)) rfl rfl k! k! k! (bytes:=8) k! (z0:=Zi 0) k! rfl (by decide)
     have er:Has h h7:=Has.FZ kW bM o! Wj
     obtain ⟨Sa,K4,tD⟩:=aO.elem (i:=((aW ab aN cM ((ab.length:Int) - 0).toNat 0 ba).1).toNat) o!
     have Dq:b_ env (some (.slice 48)) (some ah) (some (Zi (aW ab aN cM ((ab.length:Int) - 0).toNat 0 ba).1))=some (AV.ptr Sa K4):=by rw[show (((aW ab aN cM ((ab.length:Int) - 0).toNat 0 ba).1):Int)=(((aW ab aN cM ((ab.length:Int) - 0).toNat 0 ba).1.toNat:Nat):Int) by omega];exact tD
     have uL:bm env h7 3 (AV.ptr Sa (K4+1))=some (Zi (ab.g (aW ab aN cM ((ab.length:Int) - 0).toNat 0 ba).1.toNat).aL):=(aO.has er).part (t:=3) (j:=1) o! tD k! rfl
     exact bI.round (congrArg Sum.inl (by simp only[et,f0,aj,af])) (pk (d+198) _ _ hh _ h7 (CC<|VV dx<|VV (f_ 3 false true .i64 ((aN.length:Nat):Int) 0)<|CC<|BB f0<|BV f0 (qI true f0)<|TT<|CC<|LL gI<|CN 2<|NN oX (fun i=>(AV.slice i 0 1 1 false))<|PP (show cP env h6 #[26,26] z0 (AV.slice h4.nx 0 1 1 false)=some (z8,h7) from acm)<|CN 3<|MM (ao 22 0 ah (Wj _ _ o! (kX _ _ zh)) k!)<|CC<|VV Dq<|CC<|MM uL<|CN 2<|ZZ) k!) o! _ k! (fun x=>rP ab ah known ay bh dg aO gM iS rH uR Le Lf acj bM pT yX oV NG0 Ep Er c7 (IntKind.i64.wrap (cM -((ab.g (aW ab aN cM ((ab.length:Int) - 0).toNat 0 ba).1.toNat).aL))) (aN++[(aW ab aN cM ((ab.length:Int) - 0).toNat 0 ba).1]) (aW ab aN cM ((ab.length:Int) - 0).toNat 0 ba).2 z8 (by first | omega | exact ⟨dt.1.1,trivial⟩ | (have S2:=lz gM iS uR (ny (ts:=ab) (ch:=aN) (mi:=cM) gM iS ((ab.length:Int) - 0).toNat 0 ba o! (od dt o!)) o! o! dt.2 o!;first | omega | exact ux (by assumption) S2.2)) (show ((dw (iw ab) (aW ab aN cM ((ab.length:Int) - 0).toNat 0 ba).2∧True)∧CJ ab (aN++[(aW ab aN cM ((ab.length:Int) - 0).toNat 0 ba).1]) (IntKind.i64.wrap (cM -((ab.g (aW ab aN cM ((ab.length:Int) - 0).toNat 0 ba).1.toNat).aL)))) from (by first | omega | exact ⟨dt.1.1,trivial⟩ | (have S2:=lz gM iS uR (ny (ts:=ab) (ch:=aN) (mi:=cM) gM iS ((ab.length:Int) - 0).toNat 0 ba o! (od dt o!)) o! o! dt.2 o!;first | omega | exact ux (by assumption) S2.2))) x h7 eP er o! l! (Wj _ _ o! (kX _ _ zh)) (Wj _ _ o! (kX _ _ Gy)) oz9 (by first | omega | (simp<;>omega)) o!)
   · have fw:=of_decide_eq_false f0
     rcases Bool.eq_false_or_eq_true (decide (0<cM)) with f1 | f1
     · have ea:=of_decide_eq_true f1
       obtain ⟨hw_,aaj,ack,S3,S4,Jm⟩:=lW az cS
       have S5:Has h hw_:=fv aw yX Jm
       have S6:=G9.keq Jm Er
       obtain ⟨zo6,tp,h5,cC,js,ph,Et,Gr,aak,Sn,pC⟩:=bI.n rfl (rO (d:=d) (h:=hw_) cM z0 ab ah aN known ay bh dg (dc.zs S6 o! k! k!) (aO.has S5) (by assumption) o! o! (by assumption) o! o! o! aaj o! S3 o! ((ab.length:Int) - 0).toNat 0 ba o! (show ((dw (iw ab) (ba)∧0≤0∧0<(ab.length:Int))∧ky ab aN cM (0)) from (od dt o!)) (fun k_=>(((x 0)::(Zi cM)::(Pt bh)::(x 3)::(x 4)::z0::(Zi 0)::z0::(Zn aN.length)::(AV.bool (decide (((aN.length:Nat):Int)=0)))::(AV.bool (decide (((aN.length:Nat):Int)=0)))::(Zi cM)::(AV.bool (decide (0<cM)))::(AV.bool (decide (0<cM)))::rx x 14 21 []):List AV).getD k_ AV.undef) hh az S4 o! l! aM cS)
       have eV:Has h h5:=S5.trans Et
       obtain ⟨h7,ss,eP,xq,gT,jt⟩:=ik js (aK.cells [(Zi (aW ab aN cM ((ab.length:Int) - 0).toNat 0 ba).1)] 3 false)
       have er:Has h h7:=eV.trans jt
       have VQ:Has h5 h7:=jt
       obtain ⟨z9,h8,acn,kh,VS,Wk,aeK⟩:=dc.VN (k:= .i64) (g:=gg0) (tys:= #[26,26]) (v:=((aW ab aN cM ((ab.length:Int) - 0).toNat 0 ba).1)) (L:=aN) eP o! (S6.has (Et.trans jt)) gT (by first | omega | (simp<;>omega)) rfl rfl k! k! k! (bytes:=8) k! (z0:=Zi 0) k! rfl (by decide)
       have iR:Has h h8:=Has.FZ er bM o! Wk
       obtain ⟨IV,IW,ni⟩:=aO.elem (i:=((aW ab aN cM ((ab.length:Int) - 0).toNat 0 ba).1).toNat) o!
       have vQ:b_ env (some (.slice 48)) (some ah) (some (Zi (aW ab aN cM ((ab.length:Int) - 0).toNat 0 ba).1))=some (AV.ptr IV IW):=by rw[show (((aW ab aN cM ((ab.length:Int) - 0).toNat 0 ba).1):Int)=(((aW ab aN cM ((ab.length:Int) - 0).toNat 0 ba).1.toNat:Nat):Int) by omega];exact ni
       have rC:bm env h8 3 (AV.ptr IV (IW+1))=some (Zi (ab.g (aW ab aN cM ((ab.length:Int) - 0).toNat 0 ba).1.toNat).aL):=(aO.has iR).part (t:=3) (j:=1) o! ni k! rfl
       exact bI.round (congrArg Sum.inl (by simp only[et,f0,f1,aj,af])) (pk (d+198) _ _ hh _ h8 (CC<|VV dx<|VV (f_ 3 false true .i64 ((aN.length:Nat):Int) 0)<|CC<|BC f0<|BV f0 (bK 3 false true .i64 cM 0)<|VV (bf (a:=some (AV.bool true)) (b:=some (AV.bool (decide (0<cM)))) f0)<|BC f1<|LL cC<|CN 2<|NN ss (fun i=>(AV.slice i 0 1 1 false))<|PP (show cP env h7 #[26,26] z0 (AV.slice h5.nx 0 1 1 false)=some (z9,h8) from acn)<|CN 3<|MM (ao 22 0 ah (Wk _ _ o! (jt _ _ Gr)) k!)<|CC<|VV vQ<|CC<|MM rC<|CN 2<|ZZ) k!) o! _ k! (fun x=>rP ab ah known ay bh dg aO gM iS rH uR Le Lf acj bM pT yX oV NG0 Ep Er c7 (IntKind.i64.wrap (cM -((ab.g (aW ab aN cM ((ab.length:Int) - 0).toNat 0 ba).1.toNat).aL))) (aN++[(aW ab aN cM ((ab.length:Int) - 0).toNat 0 ba).1]) (aW ab aN cM ((ab.length:Int) - 0).toNat 0 ba).2 z9 (by first | omega | exact ⟨dt.1.1,trivial⟩ | (have S2:=lz gM iS uR (ny (ts:=ab) (ch:=aN) (mi:=cM) gM iS ((ab.length:Int) - 0).toNat 0 ba o! (od dt o!)) o! o! dt.2 o!;first | omega | exact ux (by assumption) S2.2)) (show ((dw (iw ab) (aW ab aN cM ((ab.length:Int) - 0).toNat 0 ba).2∧True)∧CJ ab (aN++[(aW ab aN cM ((ab.length:Int) - 0).toNat 0 ba).1]) (IntKind.i64.wrap (cM -((ab.g (aW ab aN cM ((ab.length:Int) - 0).toNat 0 ba).1.toNat).aL)))) from (by first | omega | exact ⟨dt.1.1,trivial⟩ | (have S2:=lz gM iS uR (ny (ts:=ab) (ch:=aN) (mi:=cM) gM iS ((ab.length:Int) - 0).toNat 0 ba o! (od dt o!)) o! o! dt.2 o!;first | omega | exact ux (by assumption) S2.2))) x h8 kh iR o! l! (Wk _ _ o! (jt _ _ Gr)) (Wk _ _ o! (jt _ _ aak)) aeK (by first | omega | (simp<;>omega)) o!)
     · have ea:=of_decide_eq_false f1
       exact bI.out (aN,ba) z0 (congrArg Sum.inl (by simp only[et,f0,f1,aj,af])) (pk (d+198) _ _ hh _ hh (CC<|VV dx<|VV (f_ 3 false true .i64 ((aN.length:Nat):Int) 0)<|CC<|BC f0<|BV f0 (bK 3 false true .i64 cM 0)<|VV (bf (a:=some (AV.bool true)) (b:=some (AV.bool (decide (0<cM)))) f0)<|BB f1<|ZZ) k!) az o! ⟨aw,aM,cS,l!,(show (dw (iw ab) (ba)∧True) from (by first | omega | exact ⟨dt.1.1,trivial⟩ | (have S2:=lz gM iS uR (ny (ts:=ab) (ch:=aN) (mi:=cM) gM iS ((ab.length:Int) - 0).toNat 0 ba o! (od dt o!)) o! o! dt.2 o!;first | omega | exact ux (by assumption) S2.2))),G9,(by first | omega | (simp<;>omega))⟩ k!
def oe (ab:List Task) (known:Mi) (ay:Int):List Int×Mi:=((et ab (GA ab ([])).toNat ay ([]) known).1,(et ab (GA ab ([])).toNat ay ([]) known).2)
theorem O_ {d:Nat} {h hh:ak} {ah:AV} {bH knownN:Nat} (ab:List Task) (known:Mi) (ay:Int) (bU:aH h ah ab) (cj:hh.get bH=some (tK known)) (oc:known.length=knownN) (kr:h.get bH=none) (ly:Ac ab (xU ab)) (pq:ab.length≤64) (v5:dw (iw ab) known) (AK:(∀i,i<ab.length→0≤(ab.g i).aL∧(ab.g i).aL≤100000)) (Lh:ky ab [] ay 0) (Z2:0≤ay) (pre6:ay≤100001) (bM:Tidy h) (az:Tidy hh) (aw:Has h hh) (gv:h.nx≤hh.nx):∃z hk,cA (d+199) (.fn 24) [(AV.agg [ah,(AV.map bH)]),(Zi ay)] hh= .ret z hk∧Tidy hk∧hh.nx≤hk.nx∧Has h hk∧hk.get bH=some (tK (oe ab known ay).2)∧((oe ab known ay).2).length=knownN∧bW hk .i64 3 z ((oe ab known ay).1)∧dc 3 hh hk z (zs .i64 (oe ab known ay).1):=by
 have lE:=bU.small
 have xR:=az _ _ cj
 obtain ⟨h1,bD,cb,ib,aI,cf⟩:=ik az (aK.cells [ah,(AV.map bH)] 81 false)
 have bx:Has h h1:=aw.trans cf
 obtain ⟨zo4,Eo,h3,cW,j0,oU,se,Lj,CA,Lk,Gc,zm,aal⟩:=bI.n rfl (rP (d:=d) (h:=h) (gg0:=h1) ab ah known ay hh.nx bH bU (by assumption) o! o! (by assumption) o! o! o! bM o! (by first | assumption | exact kg bM o!) o! o! o! o! (GA ab ([])).toNat ay ([]) known AV.aD o! (show ((dw (iw ab) (known)∧True)∧CJ ab ([]) (ay)) from ⟨⟨by assumption,trivial⟩,fun _=>by assumption,by omega,by omega,fun _=>by omega,by simp [GA]⟩) (fun k_=>(((AV.agg [ah,(AV.map bH)])::(Zi ay)::(Pt hh.nx)::AV.undef::AV.aD::AV.aD::gB 29):List AV).getD k_ AV.undef) h1 cb bx o! l! aI (cf _ _ cj) (.inl ⟨rfl,rfl⟩) (Nat.zero_le _) o!)
 have fB:Has h h3:=se
 have e:oe ab known ay=((et ab (GA ab ([])).toNat ay ([]) known).1,(et ab (GA ab ([])).toNat ay ([]) known).2):=by simp only[oe,aj,af]
 rw[e]
 exact ⟨_,Lt rfl (aR Tryz.func24 O9 rfl (.inr rfl) (pk (d+198) _ _ hh _ h3 (NN bD (fun i=>(Pt i))<|CN 2<|LL cW<|CN 2<|ZZ) k!) k!) az j0 o! ⟨fB,CA,l!,(dc.zs zm (by first | omega | (dsimp only;omega)) k! k!),(dc.le zm o!)⟩ (fun q w=>⟨aw,lV q cj CA,l!,(dc.aaf zm o! w k! k!),(dc.acf zm o! w)⟩)⟩
def vh:Code:=(Tryz.f56.body).getD .skip
theorem Lx:Tryz.f56.body=some vh:=by kernel_rfl
def GG:Code:=(bz vh).getD 0 .skip
def ez (P:Int→Bool):Nat→Int→Int→Int
 | 0,aN,jw=>aN
 | c7+1,aN,jw=>(bif (decide (aN<jw)) then (bif (!(P (IntKind.i64.wrap (uG (IntKind.u64.wrap (aN+jw)))))) then ez P c7 ((IntKind.i64.wrap (uG (IntKind.u64.wrap (aN+jw))))+1) jw else ez P c7 aN (IntKind.i64.wrap (uG (IntKind.u64.wrap (aN+jw))))) else aN)
theorem pY {d:Nat} {h:ak} (g:FuncId) (cap:List AV) (P:Int→Bool) (n:Int) (hP:∀y hh,Tidy hh→Has h hh→cA d (.fn g) (.int .i64 y::cap) hh= .ret (.bool (P y)) hh) (gM:0≤n) (iS:n≤100001) (rH:n≤100001):∀(k_:Nat) (aN:Int) (jw:Int) (_:(jw - aN≤(k_:Int))) (_:((0≤aN∧aN≤100001)∧(aN≤jw∧jw≤100001))) (x:Nat→AV) (hh:ak) (az:Tidy hh) (aw:Has h hh),bu (cA (d)) GG ⟨((x 0)::(AV.func g [] cap)::rx x 2 3 ((Zi aN)::(Zi jw)::rx x 7 19 [])),hh,[],.no⟩ (.exit 0) hh (fun r y=>((y 0)::(AV.func g [] cap)::rx y 2 3 ((Zi r)::rx y 6 20 []))) (fun r=>(0≤r∧r≤100001)) (ez P k_ aN jw)
 | 0,aN,jw,fK,dt,x,hh,az,aw=>by
   have q1:(decide (aN<jw))=false:=d!
   exact bu.out aN rfl (pk (d) _ _ hh _ hh (CN 2<|VV (aQ 3 false false .i64 aN jw)<|BB q1<|ZZ) k!) (bC.refl az) (show (0≤aN∧aN≤100001) from by omega) k!
 | c7+1,aN,jw,fK,dt,x,hh,az,aw=>by
   rcases Bool.eq_false_or_eq_true (decide (aN<jw)) with f0 | f0
   · have fw:=of_decide_eq_true f0
     have Wl:=Xw (i:=aN) (j:=jw) o! o! o!
     obtain ⟨adg,adh,adi⟩:=Wl
     have w2:IntKind.i64.wrap (aN+jw)=aN+jw:=wrap_i64 o! o!
     have k3:=hP (IntKind.i64.wrap (uG (IntKind.u64.wrap (aN+jw)))) hh az aw
     rcases Bool.eq_false_or_eq_true (!(P (IntKind.i64.wrap (uG (IntKind.u64.wrap (aN+jw)))))) with f1 | f1
     · have w5:IntKind.i64.wrap ((IntKind.i64.wrap (uG (IntKind.u64.wrap (aN+jw))))+1)=(IntKind.i64.wrap (uG (IntKind.u64.wrap (aN+jw))))+1:=wrap_i64 o! o!
       exact bu.round (by simp only[ez,f0,f1,aj,af]) (pk (d) _ _ hh _ hh (CN 2<|VV (aQ 3 false false .i64 aN jw)<|BB f0<|CN 2<|VV (Ft 3 false false w2)<|CN 6<|EE k3<|CC<|BC f1<|VV (Ft 3 false true w5)<|CC<|ZZ) k!) (bC.refl az) _ k! (fun x=>pY g cap P n hP gM iS rH c7 ((IntKind.i64.wrap (uG (IntKind.u64.wrap (aN+jw))))+1) jw o! (show ((0≤((IntKind.i64.wrap (uG (IntKind.u64.wrap (aN+jw))))+1)∧((IntKind.i64.wrap (uG (IntKind.u64.wrap (aN+jw))))+1)≤100001)∧(((IntKind.i64.wrap (uG (IntKind.u64.wrap (aN+jw))))+1)≤jw∧jw≤100001)) from by omega) x hh az aw)
     · exact bu.round (by simp only[ez,f0,f1,aj,af]) (pk (d) _ _ hh _ hh (CN 2<|VV (aQ 3 false false .i64 aN jw)<|BB f0<|CN 2<|VV (Ft 3 false false w2)<|CN 6<|EE k3<|CC<|BB f1<|CN 2<|ZZ) k!) (bC.refl az) _ k! (fun x=>pY g cap P n hP gM iS rH c7 aN (IntKind.i64.wrap (uG (IntKind.u64.wrap (aN+jw)))) o! (show ((0≤aN∧aN≤100001)∧(aN≤(IntKind.i64.wrap (uG (IntKind.u64.wrap (aN+jw))))∧(IntKind.i64.wrap (uG (IntKind.u64.wrap (aN+jw))))≤100001)) from by omega) x hh az aw)
   · have fw:=of_decide_eq_false f0
     exact bu.out aN (by simp only[ez,f0,aj,af]) (pk (d) _ _ hh _ hh (CN 2<|VV (aQ 3 false false .i64 aN jw)<|BB f0<|ZZ) k!) (bC.refl az) (show (0≤aN∧aN≤100001) from by omega) k!
def o7 (n:Int) (P:Int→Bool):Int:=(ez P (n - 0).toNat 0 n)
theorem Ly {d:Nat} {h:ak} {g:FuncId} {cap:List AV} (n:Int) (P:Int→Bool) (hP:∀y hh,Tidy hh→Has h hh→cA d (.fn g) (.int .i64 y::cap) hh= .ret (.bool (P y)) hh) (ly:0≤n) (pq:n≤100001) (bM:Tidy h):cA (d+1) (.fn 56) [(Zi n),(AV.func g [] cap)] h= .ret (Zi (o7 n P)) h:=by
 obtain ⟨yl1,h2,aam,aan,Wm⟩:=pY (d:=d) (h:=h) g cap P n hP o! o! o! (n - 0).toNat 0 n o! (show ((0≤0∧0≤100001)∧(0≤n∧n≤100001)) from by omega) (fun k_=>(((Zi n)::(AV.func g [] cap)::AV.undef::AV.undef::(Zi 0)::(Zi 0)::(Zi n)::AV.undef::(Zi n)::gB 17):List AV).getD k_ AV.undef) h bM (Has.refl _)
 have adj:=(show (0≤(ez P (n - 0).toNat 0 n)∧(ez P (n - 0).toNat 0 n)≤100001) from Wm)
 have eW:=aan.y
 have abT:h.nx≤h2.nx:=aan.n
 have cD:Has h h2:=aan.a
 have e:o7 n P=(ez P (n - 0).toNat 0 n):=by simp only[o7,aj,af]
 rw[e]
 exact ax rfl (aR Tryz.func56 Lx rfl (.inr rfl) (pk (d) _ _ h _ h2 (CN 4<|LL aam<|CN 2<|ZZ) k!) k!) cD rfl
def vi:Code:=(Tryz.f76.body).getD .skip
theorem Lz:Tryz.f76.body=some vi:=by kernel_rfl
def GH:Code:=(bz vi).getD 0 .skip
def iM (C4:Int) (r_:aZ):Nat→Nat→Int→Int
 | 0,_,aN=>aN
 | c7+1,i0,aN=>iM C4 r_ c7 (i0+1) (IntKind.i64.wrap (aN -(imax 0 (IntKind.i64.wrap ((cd C4 (IntKind.i64.wrap (((r_.off.g i0).aP)+1))) -((r_.off.g i0).bt))))))
theorem vj {d:Nat} {h:ak} (C4:Int) (r_:aZ) (bh:Nat) (aO:r_.name.length<2^60) (bL:aH h r_.cE r_.off) (gS:aB.ok h r_):∀(k_ i_:Nat) (aN:Int) (_:i_+k_=r_.off.length) (x:Nat→AV) (hh:ak) (az:Tidy hh) (aw:Has h hh) (aM:hh.get bh=some (aK.cells [(AV.str r_.name),(Zi r_.aC),r_.cE] 45 false)),bu (cA (d)) GH ⟨((x 0)::(Zi C4)::(Pt bh)::(x 3)::(x 4)::(Zi aN)::rx x 6 4 (r_.cE::(Zn r_.off.length)::(Zn i_)::rx x 13 19 [])),hh,[],.no⟩ (.exit 0) hh (fun r y=>((y 0)::(Zi C4)::(Pt bh)::(y 3)::(y 4)::(Zi r)::rx y 6 4 (r_.cE::(Zn r_.off.length)::rx y 12 20 []))) (fun r=>True) (iM C4 r_ k_ i_ aN)
 | 0,i0,aN,fK,x,hh,az,aw,aM=>by
   have eD:=bL.small
   have jh:=az _ _ aM
   have q1:(decide (((i0:Nat):Int)<((r_.off.length:Nat):Int)))=false:=d!
   exact bu.out aN rfl (pk (d) _ _ hh _ hh (VV (aQ 3 false false .i64 ((i0:Nat):Int) ((r_.off.length:Nat):Int))<|BB q1<|ZZ) k!) (bC.refl az) trivial k!
 | c7+1,i0,aN,fK,x,hh,az,aw,aM=>by
   have eD:=bL.small
   have jh:=az _ _ aM
   have q1:(decide (((i0:Nat):Int)<((r_.off.length:Nat):Int)))=true:=d!
   obtain ⟨p3,q4,eb⟩:=(bL.has aw).elem (i:=i0) o!
   have jE:b_ env (some (.slice 52)) (some r_.cE) (some (Zn i0))=some (AV.ptr p3 q4):=eb
   have jK:bm env hh 52 (AV.ptr p3 q4)=some (AV.agg [(Zi (r_.off.g i0).bt),(Zi (r_.off.g i0).aP)]):=(bL.has aw).load o! eb
   obtain ⟨h6,oX,mD,IY,tC,kX⟩:=ik az (aK.cells [(Zi 0),(Zi 0)] 52 false)
   have kW:Has hh h6:=kX
   obtain ⟨h7,mF,eP,xq,gT,hG⟩:=nJ (t:=52) (n:=2) (i:=hh.nx) (L:=[(Zi (r_.off.g i0).bt),(Zi (r_.off.g i0).aP)]) mD tC k! rfl rfl (by simp only[AV.cells,List.all_cons,List.all_nil,Bool.and_true,Bool.and_self,fp,dV,fq,ft,db,iF,iG,iH,iI,iJ,fu])
   have er:Has hh h7:=Has.cI kW hG az o!
   have u8:=ew 3 false true i0 1 o!
   exact bu.round (by simp only[iM,aj,af]) (pk (d) _ _ hh _ h7 (VV (aQ 3 false false .i64 ((i0:Nat):Int) ((r_.off.length:Nat):Int))<|BV q1 jE<|MM jK<|NN oX (fun i=>(Pt i))<|SS mF<|CN 3<|MM (ao 3 1 (Zi (r_.off.g i0).aP) gT k!)<|CN 3<|MM (ao 3 0 (Zi (r_.off.g i0).bt) gT k!)<|CN 4<|VV u8<|CC<|ZZ) k!) (⟨eP,er,by omega⟩) _ k! (fun x=>vj C4 r_ bh aO bL gS c7 (i0+1) (IntKind.i64.wrap (aN -(imax 0 (IntKind.i64.wrap ((cd C4 (IntKind.i64.wrap (((r_.off.g i0).aP)+1))) -((r_.off.g i0).bt)))))) o! x h7 eP (aw.trans er) (hG _ _ o! (kX _ _ aM)))
def mb (r_:aZ) (C4:Int):Int:=(IntKind.i64.wrap (r_.aC*(iM C4 r_ r_.off.length 0 C4)))
theorem LA {d:Nat} {h:ak} (r_:aZ) (C4:Int) (S7:aB.ok h r_) (bM:Tidy h):cA (d+1) (.fn 76) [(AV.agg [(AV.str r_.name),(Zi r_.aC),r_.cE]),(Zi C4)] h= .ret (Zi (mb r_ C4)) h:=by
 have aco:=S7.2.small
 obtain ⟨h1,bD,cb,ib,aI,cf⟩:=ik bM (aK.cells [(AV.str r_.name),(Zi r_.aC),r_.cE] 45 false)
 have bx:Has h h1:=cf
 have pB:bJ (some (.slice 52)) (some r_.cE)=some (Zn r_.off.length):=S7.2.len
 obtain ⟨VU,h4,gI,jL,mU⟩:=vj (d:=d) (h:=h) C4 r_ h.nx S7.1 S7.2 S7 r_.off.length 0 C4 o! (fun k_=>(((AV.agg [(AV.str r_.name),(Zi r_.aC),r_.cE])::(Zi C4)::(Pt h.nx)::AV.undef::(Zi 0)::(Zi C4)::AV.undef::AV.undef::(Zi C4)::(AV.ptr h.nx 2)::r_.cE::(Zn r_.off.length)::(Zi 0)::gB 19):List AV).getD k_ AV.undef) h1 cb bx aI
 have nh:=jL.y
 have Dk:h1.nx≤h4.nx:=jL.n
 have lI:Has h h4:=bx.trans jL.a
 have e:mb r_ C4=(IntKind.i64.wrap (r_.aC*(iM C4 r_ r_.off.length 0 C4))):=by simp only[mb,aj,af]
 rw[e]
 exact ax rfl (aR Tryz.func76 Lz rfl (.inr rfl) (pk (d) _ _ h _ h4 (NN bD (fun i=>(Pt i))<|CN 4<|MM (ao 43 2 r_.cE aI k!)<|VV pB<|CC<|LL gI<|CC<|MM (ao 3 1 (Zi r_.aC) (jL.a _ _ aI) k!)<|CN 3<|ZZ) k!) k!) lI rfl
def pZ:Code:=(Tryz.f75.body).getD .skip
theorem LB:Tryz.f75.body=some pZ:=by kernel_rfl
def GI:Code:=(bz pZ).getD 0 .skip
def GJ:Code:=(bz pZ).getD 1 .skip
def eM (j:cF) (i0:Nat) (ai:Int):Nat→Nat→Int→Int
 | 0,_,dj=>dj
 | n8+1,i1,dj=>(bif (decide (((j.ab.g i0).aF.g i1).ai=ai)) then eM j i0 ai n8 (i1+1) (IntKind.i64.wrap (dj+(IntKind.i64.wrap (((j.ab.g i0).aL)*(((j.ab.g i0).aF.g i1).aC))))) else eM j i0 ai n8 (i1+1) dj)
theorem p_ {d:Nat} {h:ak} (ai:Int) (j:cF) (i0:Nat) (dL:Nat) (ct:((j.ab.g i0).name).length<2^60) (fO:bW h .i64 3 (j.ab.g i0).aG (j.ab.g i0).aq) (vM:aH h (j.ab.g i0).bq (j.ab.g i0).aF) (yW:aH h j.ah j.ab) (qv:aB.ok h j) (OJ:aB.ok h (j.ab.g i0)) (nR:i0<j.ab.length):∀(k_ i_:Nat) (dj:Int) (_:i_+k_=((j.ab.g i0).aF.length)) (x:Nat→AV) (hh:ak) (az:Tidy hh) (aw:Has h hh) (ca:hh.get dL=some (aK.cells [(AV.str (j.ab.g i0).name),(Zi (j.ab.g i0).aL),(j.ab.g i0).aG,(j.ab.g i0).bq] 48 false)),bu (cA (d)) GJ ⟨((x 0)::(Zi ai)::rx x 2 3 ((Zi dj)::(x 6)::(Pt dL)::rx x 8 3 (j.ah::(Zn j.ab.length)::(Zn i0)::rx x 14 4 (((j.ab.g i0).bq)::(Zn (j.ab.g i0).aF.length)::(Zn i_)::rx x 21 17 [])))),hh,[],.no⟩ (.exit 2) hh (fun r y=>((y 0)::(Zi ai)::rx y 2 3 ((Zi r)::(y 6)::(Pt dL)::rx y 8 3 (j.ah::(Zn j.ab.length)::(Zn i0)::rx y 14 4 (((j.ab.g i0).bq)::(Zn (j.ab.g i0).aF.length)::rx y 20 18 []))))) (fun r=>True) (eM j i0 ai k_ i_ dj)
 | 0,i1,dj,fK,x,hh,az,aw,ca=>by
   have jr:=fO.small
   have LC:=vM.small
   have KP:=yW.small
   have so:=az _ _ ca
   have q1:(decide (((i1:Nat):Int)<(((j.ab.g i0).aF.length:Nat):Int)))=false:=d!
   exact bu.out dj rfl (pk (d) _ _ hh _ hh (VV (aQ 3 false false .i64 ((i1:Nat):Int) (((j.ab.g i0).aF.length:Nat):Int))<|BB q1<|ZZ) k!) (bC.refl az) trivial k!
 | n8+1,i1,dj,fK,x,hh,az,aw,ca=>by
   have jr:=fO.small
   have LC:=vM.small
   have KP:=yW.small
   have so:=az _ _ ca
   have q1:(decide (((i1:Nat):Int)<(((j.ab.g i0).aF.length:Nat):Int)))=true:=d!
   obtain ⟨p3,q4,eb⟩:=(vM.has aw).elem (i:=i1) o!
   have jE:b_ env (some (.slice 50)) (some (j.ab.g i0).bq) (some (Zn i1))=some (AV.ptr p3 q4):=eb
   have jK:bm env hh 50 (AV.ptr p3 q4)=some (AV.agg [(Zi ((j.ab.g i0).aF.g i1).ai),(Zi ((j.ab.g i0).aF.g i1).aC)]):=(vM.has aw).load o! eb
   obtain ⟨h6,oX,mD,IY,tC,kX⟩:=ik az (aK.cells [(Zi 0),(Zi 0)] 50 false)
   have kW:Has hh h6:=kX
   obtain ⟨h7,mF,eP,xq,gT,hG⟩:=nJ (t:=50) (n:=2) (i:=hh.nx) (L:=[(Zi ((j.ab.g i0).aF.g i1).ai),(Zi ((j.ab.g i0).aF.g i1).aC)]) mD tC k! rfl rfl (by simp only[AV.cells,List.all_cons,List.all_nil,Bool.and_true,Bool.and_self,fp,dV,fq,ft,db,iF,iG,iH,iI,iJ,fu])
   have er:Has hh h7:=Has.cI kW hG az o!
   rcases Bool.eq_false_or_eq_true (decide (((j.ab.g i0).aF.g i1).ai=ai)) with f1 | f1
   · have ea:=of_decide_eq_true f1
     have u9:=ew 3 false true i1 1 o!
     exact bu.round (by simp only[eM,f1,aj,af]) (pk (d) _ _ hh _ h7 (VV (aQ 3 false false .i64 ((i1:Nat):Int) (((j.ab.g i0).aF.length:Nat):Int))<|BV q1 jE<|MM jK<|NN oX (fun i=>(Pt i))<|SS mF<|CC<|MM (ao 3 0 (Zi ((j.ab.g i0).aF.g i1).ai) gT k!)<|CC<|VV (f_ 3 false false .i64 ((j.ab.g i0).aF.g i1).ai ai)<|BB f1<|CN 2<|MM (ao 3 1 (Zi (j.ab.g i0).aL) (hG _ _ o! (kX _ _ ca)) k!)<|CC<|MM (ao 3 1 (Zi ((j.ab.g i0).aF.g i1).aC) gT k!)<|CN 3<|VV u9<|CC<|ZZ) k!) (⟨eP,er,by omega⟩) _ k! (fun x=>p_ ai j i0 dL ct fO vM yW qv OJ nR n8 (i1+1) (IntKind.i64.wrap (dj+(IntKind.i64.wrap (((j.ab.g i0).aL)*(((j.ab.g i0).aF.g i1).aC))))) o! x h7 eP (aw.trans er) (hG _ _ o! (kX _ _ ca)))
   · have ea:=of_decide_eq_false f1
     have u9:=ew 3 false true i1 1 o!
     exact bu.round (by simp only[eM,f1,aj,af]) (pk (d) _ _ hh _ h7 (VV (aQ 3 false false .i64 ((i1:Nat):Int) (((j.ab.g i0).aF.length:Nat):Int))<|BV q1 jE<|MM jK<|NN oX (fun i=>(Pt i))<|SS mF<|CC<|MM (ao 3 0 (Zi ((j.ab.g i0).aF.g i1).ai) gT k!)<|CC<|VV (f_ 3 false false .i64 ((j.ab.g i0).aF.g i1).ai ai)<|BV f1 u9<|CC<|ZZ) k!) (⟨eP,er,by omega⟩) _ k! (fun x=>p_ ai j i0 dL ct fO vM yW qv OJ nR n8 (i1+1) dj o! x h7 eP (aw.trans er) (hG _ _ o! (kX _ _ ca)))
def j5 (j:cF) (ai:Int):Nat→Nat→Int→Int
 | 0,_,aN=>aN
 | c7+1,i0,aN=>j5 j ai c7 (i0+1) (eM j i0 ai (j.ab.g i0).aF.length 0 aN)
theorem vk {d:Nat} {h:ak} (ai:Int) (j:cF) (aO:aH h j.ah j.ab) (gS:aB.ok h j):∀(k_ i_:Nat) (aN:Int) (_:i_+k_=j.ab.length) (x:Nat→AV) (hh:ak) (az:Tidy hh) (aw:Has h hh),bu (cA (d)) GI ⟨((x 0)::(Zi ai)::rx x 2 3 ((Zi aN)::rx x 6 5 (j.ah::(Zn j.ab.length)::(Zn i_)::rx x 14 24 []))),hh,[],.no⟩ (.exit 0) hh (fun r y=>((y 0)::(Zi ai)::rx y 2 3 ((Zi r)::rx y 6 5 (j.ah::(Zn j.ab.length)::rx y 13 25 [])))) (fun r=>True) (j5 j ai k_ i_ aN)
 | 0,i0,aN,fK,x,hh,az,aw=>by
   have bY:=aO.small
   have q1:(decide (((i0:Nat):Int)<((j.ab.length:Nat):Int)))=false:=d!
   exact bu.out aN rfl (pk (d) _ _ hh _ hh (VV (aQ 3 false false .i64 ((i0:Nat):Int) ((j.ab.length:Nat):Int))<|BB q1<|ZZ) k!) (bC.refl az) trivial k!
 | c7+1,i0,aN,fK,x,hh,az,aw=>by
   have bY:=aO.small
   have q1:(decide (((i0:Nat):Int)<((j.ab.length:Nat):Int)))=true:=d!
   obtain ⟨p3,q4,eb⟩:=(aO.has aw).elem (i:=i0) o!
   have jE:b_ env (some (.slice 48)) (some j.ah) (some (Zn i0))=some (AV.ptr p3 q4):=eb
   have jK:bm env hh 48 (AV.ptr p3 q4)=some (AV.agg [(AV.str (j.ab.g i0).name),(Zi (j.ab.g i0).aL),(j.ab.g i0).aG,(j.ab.g i0).bq]):=(aO.has aw).load o! eb
   obtain ⟨h6,oX,mD,IY,tC,kX⟩:=ik az (aK.cells [(AV.str []),(Zi 0),AV.aD,AV.aD] 48 false)
   have kW:Has hh h6:=kX
   have ZM:AV.scalar (j.ab.g i0).aG=true:=(((aO.has aw).ok (i:=i0) o!).2.1).scalar
   have sc9:AV.scalar (j.ab.g i0).bq=true:=(((aO.has aw).ok (i:=i0) o!).2.2).scalar
   obtain ⟨h7,mF,eP,xq,gT,hG⟩:=nJ (t:=48) (n:=4) (i:=hh.nx) (L:=[(AV.str (j.ab.g i0).name),(Zi (j.ab.g i0).aL),(j.ab.g i0).aG,(j.ab.g i0).bq]) mD tC k! rfl rfl (by simp only[AV.cells,List.all_cons,List.all_nil,Bool.and_true,Bool.and_self,fp,dV,fq,ft,db,iF,iG,iH,iI,iJ,fu,ZM,sc9])
   have er:Has hh h7:=Has.cI kW hG az o!
   have pO:bJ (some (.slice 50)) (some (j.ab.g i0).bq)=some (Zn (j.ab.g i0).aF.length):=(((aO.has aw).ok (i:=i0) o!).2.2).len
   obtain ⟨afY,V4,Wn,Ad,acp⟩:=p_ (d:=d) (h:=hh) ai j i0 hh.nx ((aO.has aw).ok (i:=i0) o!).1 ((aO.has aw).ok (i:=i0) o!).2.1 ((aO.has aw).ok (i:=i0) o!).2.2 (aO.has aw) (aB.mono aw gS) ((aO.has aw).ok (i:=i0) o!) o! (j.ab.g i0).aF.length 0 aN o! (fun k_=>(((x 0)::(Zi ai)::rx x 2 3 ((Zi aN)::(x 6)::(Pt hh.nx)::rx x 8 3 (j.ah::(Zn j.ab.length)::(Zn i0)::(AV.bool (decide (((i0:Nat):Int)<((j.ab.length:Nat):Int))))::(AV.ptr p3 q4)::(AV.agg [(AV.str (j.ab.g i0).name),(Zi (j.ab.g i0).aL),(j.ab.g i0).aG,(j.ab.g i0).bq])::(AV.ptr hh.nx 3)::((j.ab.g i0).bq)::(Zn (j.ab.g i0).aF.length)::(Zi 0)::rx x 21 17 []))):List AV).getD k_ AV.undef) h7 eP er gT
   have M9:=Ad.y
   have ab3:h7.nx≤V4.nx:=Ad.n
   have M_:Has hh V4:=er.trans Ad.a
   have u13:=ew 3 false true i0 1 o!
   exact bu.round (by simp only[j5,aj,af]) (pk (d) _ _ hh _ V4 (VV (aQ 3 false false .i64 ((i0:Nat):Int) ((j.ab.length:Nat):Int))<|BV q1 jE<|MM jK<|NN oX (fun i=>(Pt i))<|SS mF<|CC<|MM (ao 46 3 (j.ab.g i0).bq gT k!)<|VV pO<|CC<|LL Wn<|VV u13<|CC<|ZZ) k!) (⟨M9,M_,by omega⟩) _ k! (fun x=>vk ai j aO gS c7 (i0+1) (eM j i0 ai (j.ab.g i0).aF.length 0 aN) o! x V4 M9 (aw.trans M_))
def nz (j:cF) (ai:Int):Int:=(j5 j ai j.ab.length 0 0)
theorem LD {d:Nat} {h:ak} (j:cF) (ai:Int) (bF:aB.ok h j) (bM:Tidy h):cA (d+1) (.fn 75) [(AV.agg [j.ah,j.ag]),(Zi ai)] h= .ret (Zi (nz j ai)) h:=by
 have eS:=bF.1.small
 have eT:=bF.2.small
 obtain ⟨h1,bD,cb,ib,aI,cf⟩:=ik bM (aK.cells [j.ah,j.ag] 25 false)
 have bx:Has h h1:=cf
 have pB:bJ (some (.slice 48)) (some j.ah)=some (Zn j.ab.length):=bF.1.len
 obtain ⟨VU,h4,gI,jL,mU⟩:=vk (d:=d) (h:=h) ai j bF.1 bF j.ab.length 0 0 o! (fun k_=>(((AV.agg [j.ah,j.ag])::(Zi ai)::(Pt h.nx)::AV.undef::(Zi 0)::(Zi 0)::AV.undef::AV.undef::AV.undef::AV.undef::(Pt h.nx)::j.ah::(Zn j.ab.length)::(Zi 0)::gB 24):List AV).getD k_ AV.undef) h1 cb bx
 have nh:=jL.y
 have Dk:h1.nx≤h4.nx:=jL.n
 have lI:Has h h4:=bx.trans jL.a
 have e:nz j ai=(j5 j ai j.ab.length 0 0):=by simp only[nz,aj,af]
 rw[e]
 exact ax rfl (aR Tryz.func75 LB rfl (.inr rfl) (pk (d) _ _ h _ h4 (NN bD (fun i=>(Pt i))<|CN 3<|MM (ao 22 0 j.ah aI k!)<|VV pB<|CC<|LL gI<|CN 2<|ZZ) k!) k!) lI rfl
def sy:Code:=(Tryz.f32.body).getD .skip
theorem o8:Tryz.f32.body=some sy:=by kernel_rfl
def cr (j:cF) (ai:Int) (ay:Int):Bool:=(bif (fQ ai ((j.ae.length:Nat):Int)) then (decide ((mb (j.ae.g ai.toNat) (cd (IntKind.i64.wrap (ay - 1)) 1099511627776))<(nz j ai))) else false)
theorem o9 {d:Nat} {h:ak} (j:cF) (ai:Int) (ay:Int) (bF:aB.ok h j) (bM:Tidy h):cA (d+2) (.fn 32) [(AV.agg [j.ah,j.ag]),(Zi ai),(Zi ay)] h= .ret (AV.bool (cr j ai ay)) h:=by
 have eS:=bF.1.small
 have eT:=bF.2.small
 obtain ⟨h1,bD,cb,ib,aI,cf⟩:=ik bM (aK.cells [j.ah,j.ag] 25 false)
 have bx:Has h h1:=cf
 have pB:bJ (some (.slice 45)) (some j.ag)=some (Zn j.ae.length):=bF.2.len
 have k3:=xE (d:=d) ai ((j.ae.length:Nat):Int) cb
 rcases Bool.eq_false_or_eq_true (fQ ai ((j.ae.length:Nat):Int)) with f0 | f0
 · have afw:=qy f0
   obtain ⟨p6,q7,IN⟩:=bF.2.elem (i:=ai.toNat) o!
   have R4:b_ env (some (.slice 45)) (some j.ag) (some (Zi ai))=some (AV.ptr p6 q7):=by rw[show (ai:Int)=((ai.toNat:Nat):Int) by omega];exact IN
   have XA:bm env h1 45 (AV.ptr p6 q7)=some (AV.agg [(AV.str (j.ae.g ai.toNat).name),(Zi (j.ae.g ai.toNat).aC),(j.ae.g ai.toNat).cE]):=(bF.2.has bx).load o! IN
   have k9:=LD (d:=d) j ai (aB.mono bx bF) cb
   have VJ:=LA (d:=d) (j.ae.g ai.toNat) (cd (IntKind.i64.wrap (ay - 1)) 1099511627776) (aB.mono bx (bF.2.ok (i:=ai.toNat) o!)) cb
   have OU:AV.same 20 j.ag j.ag=true:=bF.2.same 19
   have R9:AV.same 20 (AV.agg [j.ah,j.ag]) (AV.agg [j.ah,j.ag])=true:=iC 18 (th bF.1.same (th bF.2.same OA))
   have IE:AV.same 20 (AV.agg [(AV.str (j.ae.g ai.toNat).name),(Zi (j.ae.g ai.toNat).aC),(j.ae.g ai.toNat).cE]) (AV.agg [(AV.str (j.ae.g ai.toNat).name),(Zi (j.ae.g ai.toNat).aC),(j.ae.g ai.toNat).cE])=true:=iC 18 (th (fun n=>fT n _) (th (fun n=>aJ n _ _) (th (bF.2.ok (i:=ai.toNat) o!).2.same OA)))
   have e:cr j ai ay=(decide ((mb (j.ae.g ai.toNat) (cd (IntKind.i64.wrap (ay - 1)) 1099511627776))<(nz j ai))):=by simp only[cr,f0,aj,af]
   rw[e]
   exact ax rfl (aR Tryz.func32 o8 rfl (.inr rfl) (pk (d+1) _ _ h _ h1 (NN bD (fun i=>(Pt i))<|CN 3<|MM (ao 23 1 j.ag aI k!)<|VV pB<|EE k3<|CC<|BM f0 (ao 25 0 (AV.agg [j.ah,j.ag]) aI k!)<|BC f0<|BC f0<|BM f0 (ao 23 1 j.ag aI k!)<|BC f0<|BV f0 R4<|BM f0 XA<|BC f0<|BC f0<|BC f0<|BB f0<|EE k9<|BB f0<|EE VJ<|BV f0 (bK 3 false false .i64 (nz j ai) (mb (j.ae.g ai.toNat) (cd (IntKind.i64.wrap (ay - 1)) 1099511627776)))<|VV (nK (decide ((mb (j.ae.g ai.toNat) (cd (IntKind.i64.wrap (ay - 1)) 1099511627776))<(nz j ai))) false f0)<|CC<|HH (ao 23 1 j.ag aI k!)<|HH OU<|HH (ao 25 0 (AV.agg [j.ah,j.ag]) aI k!)<|HH R9<|HH (ao 23 1 j.ag aI k!)<|HH OU<|HH (ao 23 1 j.ag aI k!)<|HH OU<|HH XA<|HH IE<|HH XA<|HH IE<|ZZ) k!) k!) bx rfl
 · have c5:AV.same 20 j.ag j.ag=true:=bF.2.same 19
   have e:cr j ai ay=false:=by simp only[cr,f0,aj,af]
   rw[e]
   exact ax rfl (aR Tryz.func32 o8 rfl (.inr rfl) (pk (d+1) _ _ h _ h1 (NN bD (fun i=>(Pt i))<|CN 3<|MM (ao 23 1 j.ag aI k!)<|VV pB<|EE k3<|CC<|BB f0<|BB f0<|BB f0<|BB f0<|BB f0<|BB f0<|BB f0<|BB f0<|BB f0<|BB f0<|BB f0<|BB f0<|BV f0 (vK false f0)<|CC<|HH (ao 23 1 j.ag aI k!)<|HH c5<|ZZ) k!) k!) bx rfl
def CK:Code:=(Tryz.f68.body).getD .skip
theorem Jn:Tryz.f68.body=some CK:=by kernel_rfl
def gA (ay:Int) (j:cF) (ai:Int):Bool:=(!(cr j ai (IntKind.i64.wrap (ay+1))))
theorem Jo {d:Nat} {h:ak} (ay:Int) (j:cF) (jB:Nat) (ai:Int) (EB:Nat) (bF:aB.ok h j) (ZK:h.get jB=some (.cells (aB.c j) 25 false)) (LF:h.get EB=some (aK.cells [(Zi ai)] 3 false)) (bM:Tidy h):cA (d+3) (.fn 68) [(Zi ay),(Pt jB),(Pt EB)] h= .ret (AV.bool (gA ay j ai)) h:=by
 have eS:=bF.1.small
 have eT:=bF.2.small
 have k1:=o9 (d:=d) j ai (IntKind.i64.wrap (ay+1)) bF bM
 have e:gA ay j ai=(!(cr j ai (IntKind.i64.wrap (ay+1)))):=by simp only[gA,aj,af]
 rw[e]
 exact ax rfl (aR Tryz.func68 Jn rfl (.inr rfl) (pk (d+2) _ _ h _ h (CC<|MM (ao 25 0 (AV.agg [j.ah,j.ag]) ZK k!)<|MM (ao 3 0 (Zi ai) LF k!)<|CN 2<|EE k1<|CN 2<|ZZ) k!) k!) (Has.refl _) rfl
def DD:Code:=(Tryz.f25.body).getD .skip
theorem LG:Tryz.f25.body=some DD:=by kernel_rfl
def eg (j:cF) (ai:Int):Int:=(o7 100001 (fun y=>gA y j ai))
theorem CL {d:Nat} {h:ak} (j:cF) (ai:Int) (bF:aB.ok h j) (bM:Tidy h):cA (d+5) (.fn 25) [(AV.agg [j.ah,j.ag]),(Zi ai)] h= .ret (Zi (eg j ai)) h:=by
 have eS:=bF.1.small
 have eT:=bF.2.small
 obtain ⟨h1,bD,cb,ib,aI,cf⟩:=ik bM (aK.cells [j.ah,j.ag] 25 false)
 have bx:Has h h1:=cf
 obtain ⟨h2,fA,eW,xw,bS,cx⟩:=ik cb (aK.cells [(Zi ai)] 3 false)
 have cD:Has h h2:=bx.trans cx
 have k3:=Ly (d:=d+3) 100001 (fun y=>gA y j ai) (fun y hh yy aa=>Jo (d:=d) y j h.nx ai h1.nx (aB.mono aa (aB.mono cD bF)) (aa _ _ (cx _ _ aI)) (aa _ _ bS) yy) (by first | omega | assumption | (simp only[List.length_set,List.length_replicate,List.length_append,List.length_cons,List.length_nil,List.nil_append]<;>omega) | (rw[List.length_take];omega)) (by first | omega | assumption | (simp only[List.length_set,List.length_replicate,List.length_append,List.length_cons,List.length_nil,List.nil_append]<;>omega) | (rw[List.length_take];omega)) eW
 have e:eg j ai=(o7 100001 (fun y=>gA y j ai)):=by simp only[eg,aj,af]
 rw[e]
 exact ax rfl (aR Tryz.func25 LG rfl (.inr rfl) (pk (d+4) _ _ h _ h2 (NN bD (fun i=>(Pt i))<|NN fA (fun i=>(Pt i))<|CN 2<|EE k3<|CC<|ZZ) k!) k!) cD rfl
theorem LI (k:IntKind) (l:List Int):(zs k l).all AV.scalar=true:=List.all_eq_true.2 fun x hx=>by
 obtain ⟨y,_,rfl⟩:=List.mem_map.1 hx
 rfl
def qa:Code:=(Tryz.f27.body).getD .skip
theorem LJ:Tryz.f27.body=some qa:=by kernel_rfl
def GK:Code:=(bz qa).getD 0 .skip
def GM:Code:=(bz qa).getD 1 .skip
def hT (V:Int→Int) (i0:Nat) (j:cF) (ck:Int):Nat→Nat→Int→Int
 | 0,_,dj=>dj
 | n8+1,i1,dj=>(bif (decide (((j.ab.g i0).aq.g i1)=ck)) then hT V i0 j ck n8 (i1+1) (imax dj (V ((i0:Nat):Int))) else hT V i0 j ck n8 (i1+1) dj)
theorem qb {d:Nat} {h:ak} (ck:Int) (i0:Nat) (j:cF) (R:Int→Prop) (V:Int→Int) (dL:Nat) (ct:aH h j.ah j.ab) (fO:aH h j.ag j.ae) (qv:aB.ok h j) (hV:∀t:Int,0≤t→t<(j.ab.length:Int)→R t→∀hh,Tidy hh→Has h hh→cA d (.fn 27) [AV.agg [j.ah,j.ag],.int .i64 t] hh= .ret (.int .i64 (V t)) hh) (nR:i0<j.ab.length) (sv:0≤ck) (tx:ck<(j.ab.length:Int)) (xz:∀i:Nat,i<j.ab.length→∀q:Nat,q<(j.ab.g i).aq.length→(j.ab.g i).aq.g q=ck→R (i:Int)):∀(k_ i_:Nat) (dj:Int) (_:i_+k_=((j.ab.g i0).aq.length)) (x:Nat→AV) (hh:ak) (az:Tidy hh) (aw:Has h hh) (ca:hh.get dL=some (aK.cells [j.ah,j.ag] 25 false)),bu (cA (d)) GM ⟨((x 0)::(Zi ck)::(Pt dL)::(x 3)::(x 4)::(Zi dj)::(Zn i0)::(Zn i_)::rx x 8 42 []),hh,[],.no⟩ (.exit 2) hh (fun r y=>((y 0)::(Zi ck)::(Pt dL)::(y 3)::(y 4)::(Zi r)::(Zn i0)::rx y 7 43 [])) (fun r=>True) (hT V i0 j ck k_ i_ dj)
 | 0,i1,dj,fK,x,hh,az,aw,ca=>by
   have kK:=ct.small
   have jr:=fO.small
   have so:=az _ _ ca
   obtain ⟨p2,q3,qC⟩:=(ct.has aw).elem (i:=i0) o!
   have JS:b_ env (some (.slice 48)) (some j.ah) (some (Zn i0))=some (AV.ptr p2 q3):=qC
   have JT:bm env hh 26 (AV.ptr p2 (q3+2))=some ((j.ab.g i0).aG):=(ct.has aw).part (t:=26) (j:=2) o! qC k! rfl
   have Ai:bJ (some (.slice 3)) (some (j.ab.g i0).aG)=some (Zn (j.ab.g i0).aq.length):=(((ct.has aw).ok (i:=i0) o!).2.1).len
   have q6:(decide (((i1:Nat):Int)<(((j.ab.g i0).aq.length:Nat):Int)))=false:=d!
   exact bu.out dj rfl (pk (d) _ _ hh _ hh (CN 2<|MM (ao 22 0 j.ah ca k!)<|CC<|VV JS<|CC<|MM JT<|VV Ai<|VV (aQ 3 false false .i64 ((i1:Nat):Int) (((j.ab.g i0).aq.length:Nat):Int))<|BB q6<|ZZ) k!) (bC.refl az) trivial k!
 | n8+1,i1,dj,fK,x,hh,az,aw,ca=>by
   have kK:=ct.small
   have jr:=fO.small
   have so:=az _ _ ca
   have Sz:=xz
   have nl_:=((ct.ok (i:=i0) o!).2.1).small
   obtain ⟨p2,q3,qC⟩:=(ct.has aw).elem (i:=i0) o!
   have JS:b_ env (some (.slice 48)) (some j.ah) (some (Zn i0))=some (AV.ptr p2 q3):=qC
   have JT:bm env hh 26 (AV.ptr p2 (q3+2))=some ((j.ab.g i0).aG):=(ct.has aw).part (t:=26) (j:=2) o! qC k! rfl
   have Ai:bJ (some (.slice 3)) (some (j.ab.g i0).aG)=some (Zn (j.ab.g i0).aq.length):=(((ct.has aw).ok (i:=i0) o!).2.1).len
   have q6:(decide (((i1:Nat):Int)<(((j.ab.g i0).aq.length:Nat):Int)))=true:=d!
   obtain ⟨p8,q9,tu⟩:=(ct.has aw).elem (i:=i0) o!
   have JP:b_ env (some (.slice 48)) (some j.ah) (some (Zn i0))=some (AV.ptr p8 q9):=tu
   have sq:bm env hh 26 (AV.ptr p8 (q9+2))=some ((j.ab.g i0).aG):=(ct.has aw).part (t:=26) (j:=2) o! tu k! rfl
   obtain ⟨IV,IW,ni,_⟩:=(((ct.has aw).ok (i:=i0) o!).2.1).elem (i:=i1) o!
   have vQ:b_ env (some (.slice 3)) (some (j.ab.g i0).aG) (some (Zn i1))=some (AV.ptr IV IW):=ni
   have rC:bm env hh 3 (AV.ptr IV IW)=some (Zi ((j.ab.g i0).aq.g i1)):=(((ct.has aw).ok (i:=i0) o!).2.1).load o! ni
   rcases Bool.eq_false_or_eq_true (decide (((j.ab.g i0).aq.g i1)=ck)) with f1 | f1
   · have ea:=of_decide_eq_true f1
     have k16:=hV ((i0:Nat):Int) o! o! (Sz i0 o! i1 o! (by first | assumption | exact of_decide_eq_true (by assumption))) hh az aw
     have u17:=ew 3 false true i1 1 o!
     exact bu.round (by simp only[hT,f1,aj,af]) (pk (d) _ _ hh _ hh (CN 2<|MM (ao 22 0 j.ah ca k!)<|CC<|VV JS<|CC<|MM JT<|VV Ai<|VV (aQ 3 false false .i64 ((i1:Nat):Int) (((j.ab.g i0).aq.length:Nat):Int))<|BC q6<|MM (ao 22 0 j.ah ca k!)<|CC<|VV JP<|CC<|MM sq<|CC<|VV vQ<|MM rC<|CC<|VV (f_ 3 false false .i64 ((j.ab.g i0).aq.g i1) ck)<|BC f1<|MM (ao 25 0 (AV.agg [j.ah,j.ag]) ca k!)<|CC<|EE k16<|CN 3<|VV u17<|CC<|ZZ) k!) (bC.refl az) _ k! (fun x=>qb ck i0 j R V dL ct fO qv hV nR sv tx xz n8 (i1+1) (imax dj (V ((i0:Nat):Int))) o! x hh az aw ca)
   · have ea:=of_decide_eq_false f1
     have u16:=ew 3 false true i1 1 o!
     exact bu.round (by simp only[hT,f1,aj,af]) (pk (d) _ _ hh _ hh (CN 2<|MM (ao 22 0 j.ah ca k!)<|CC<|VV JS<|CC<|MM JT<|VV Ai<|VV (aQ 3 false false .i64 ((i1:Nat):Int) (((j.ab.g i0).aq.length:Nat):Int))<|BC q6<|MM (ao 22 0 j.ah ca k!)<|CC<|VV JP<|CC<|MM sq<|CC<|VV vQ<|MM rC<|CC<|VV (f_ 3 false false .i64 ((j.ab.g i0).aq.g i1) ck)<|BC f1<|VV u16<|CC<|ZZ) k!) (bC.refl az) _ k! (fun x=>qb ck i0 j R V dL ct fO qv hV nR sv tx xz n8 (i1+1) dj o! x hh az aw ca)
def j6 (V:Int→Int) (j:cF) (ck:Int):Nat→Nat→Int→Int
 | 0,_,aN=>aN
 | c7+1,i0,aN=>j6 V j ck c7 (i0+1) (hT V i0 j ck (j.ab.g i0).aq.length 0 aN)
theorem vl {d:Nat} {h:ak} (ck:Int) (j:cF) (R:Int→Prop) (V:Int→Int) (bh:Nat) (aO:aH h j.ah j.ab) (bL:aH h j.ag j.ae) (gS:aB.ok h j) (hV:∀t:Int,0≤t→t<(j.ab.length:Int)→R t→∀hh,Tidy hh→Has h hh→cA d (.fn 27) [AV.agg [j.ah,j.ag],.int .i64 t] hh= .ret (.int .i64 (V t)) hh) (gM:0≤ck) (iS:ck<(j.ab.length:Int)) (rH:∀i:Nat,i<j.ab.length→∀q:Nat,q<(j.ab.g i).aq.length→(j.ab.g i).aq.g q=ck→R (i:Int)):∀(k_ i_:Nat) (aN:Int) (_:i_+k_=j.ab.length) (x:Nat→AV) (hh:ak) (az:Tidy hh) (aw:Has h hh) (aM:hh.get bh=some (aK.cells [j.ah,j.ag] 25 false)),bu (cA (d)) GK ⟨((x 0)::(Zi ck)::(Pt bh)::(x 3)::(x 4)::(Zi aN)::(Zn i_)::rx x 7 43 []),hh,[],.no⟩ (.exit 0) hh (fun r y=>((y 0)::(Zi ck)::(Pt bh)::(y 3)::(y 4)::(Zi r)::rx y 6 44 [])) (fun r=>True) (j6 V j ck k_ i_ aN)
 | 0,i0,aN,fK,x,hh,az,aw,aM=>by
   have bY:=aO.small
   have eD:=bL.small
   have jh:=az _ _ aM
   have dx:bJ (some (.slice 48)) (some j.ah)=some (Zn j.ab.length):=(aO.has aw).len
   have q2:(decide (((i0:Nat):Int)<((j.ab.length:Nat):Int)))=false:=d!
   exact bu.out aN rfl (pk (d) _ _ hh _ hh (CN 2<|MM (ao 22 0 j.ah aM k!)<|VV dx<|VV (aQ 3 false false .i64 ((i0:Nat):Int) ((j.ab.length:Nat):Int))<|BB q2<|ZZ) k!) (bC.refl az) trivial k!
 | c7+1,i0,aN,fK,x,hh,az,aw,aM=>by
   have bY:=aO.small
   have eD:=bL.small
   have jh:=az _ _ aM
   have dx:bJ (some (.slice 48)) (some j.ah)=some (Zn j.ab.length):=(aO.has aw).len
   have q2:(decide (((i0:Nat):Int)<((j.ab.length:Nat):Int)))=true:=d!
   obtain ⟨VU,h4,gI,jL,mU⟩:=qb (d:=d) (h:=hh) ck i0 j R V bh (aO.has aw) (bL.has aw) (aB.mono aw gS) (fun t a b c h2 yy aa=>hV t a b c h2 yy (aw.trans aa)) o! o! o! (by assumption) (j.ab.g i0).aq.length 0 aN o! (fun k_=>(((x 0)::(Zi ck)::(Pt bh)::(x 3)::(x 4)::(Zi aN)::(Zn i0)::(Zi 0)::(Zn i0)::(Pt bh)::j.ah::(Zn j.ab.length)::(AV.bool (decide (((i0:Nat):Int)<((j.ab.length:Nat):Int))))::rx x 13 37 []):List AV).getD k_ AV.undef) hh az (Has.refl _) aM
   have nh:=jL.y
   have Dk:hh.nx≤h4.nx:=jL.n
   have lI:Has hh h4:=jL.a
   have u5:=ew 3 false true i0 1 o!
   exact bu.round (by simp only[j6,aj,af]) (pk (d) _ _ hh _ h4 (CN 2<|MM (ao 22 0 j.ah aM k!)<|VV dx<|VV (aQ 3 false false .i64 ((i0:Nat):Int) ((j.ab.length:Nat):Int))<|BC q2<|LL gI<|CC<|VV u5<|CC<|ZZ) k!) (⟨nh,lI,by omega⟩) _ k! (fun x=>vl ck j R V bh aO bL gS hV gM iS rH c7 (i0+1) (hT V i0 j ck (j.ab.g i0).aq.length 0 aN) o! x h4 nh (aw.trans lI) (jL.a _ _ aM))
def tO (j:cF) (ck:Int) (V:Int→Int) (R:Int→Prop):Int:=(IntKind.i64.wrap ((j6 V j ck j.ab.length 0 0)+((j.ab.g ck.toNat).aL)))
theorem LK {d:Nat} {h:ak} (j:cF) (ck:Int) (V:Int→Int) (R:Int→Prop) (bF:aB.ok h j) (hV:∀t:Int,0≤t→t<(j.ab.length:Int)→R t→∀hh,Tidy hh→Has h hh→cA d (.fn 27) [AV.agg [j.ah,j.ag],.int .i64 t] hh= .ret (.int .i64 (V t)) hh) (ly:0≤ck) (pq:ck<(j.ab.length:Int)) (v5:∀i:Nat,i<j.ab.length→∀q:Nat,q<(j.ab.g i).aq.length→(j.ab.g i).aq.g q=ck→R (i:Int)) (bM:Tidy h):cA (d+1) (.fn 27) [(AV.agg [j.ah,j.ag]),(Zi ck)] h= .ret (Zi (tO j ck V R)) h:=by
 have eS:=bF.1.small
 have eT:=bF.2.small
 obtain ⟨h1,bD,cb,ib,aI,cf⟩:=ik bM (aK.cells [j.ah,j.ag] 25 false)
 have bx:Has h h1:=cf
 obtain ⟨Eo,h3,cW,dE,Gc⟩:=vl (d:=d) (h:=h) ck j R V h.nx bF.1 bF.2 bF hV o! o! (by assumption) j.ab.length 0 0 o! (fun k_=>(((AV.agg [j.ah,j.ag])::(Zi ck)::(Pt h.nx)::AV.undef::(Zi 0)::(Zi 0)::(Zi 0)::gB 43):List AV).getD k_ AV.undef) h1 cb bx aI
 have j0:=dE.y
 have oU:h1.nx≤h3.nx:=dE.n
 have fB:Has h h3:=bx.trans dE.a
 obtain ⟨p5,q6,IF⟩:=bF.1.elem (i:=ck.toNat) o!
 have OG:b_ env (some (.slice 48)) (some j.ah) (some (Zi ck))=some (AV.ptr p5 q6):=by rw[show (ck:Int)=((ck.toNat:Nat):Int) by omega];exact IF
 have VO:bm env h3 3 (AV.ptr p5 (q6+1))=some (Zi (j.ab.g ck.toNat).aL):=(bF.1.has fB).part (t:=3) (j:=1) o! IF k! rfl
 have e:tO j ck V R=(IntKind.i64.wrap ((j6 V j ck j.ab.length 0 0)+((j.ab.g ck.toNat).aL))):=by simp only[tO,aj,af]
 rw[e]
 exact ax rfl (aR Tryz.func27 LJ rfl (.inr rfl) (pk (d) _ _ h _ h3 (NN bD (fun i=>(Pt i))<|CN 3<|LL cW<|CN 2<|MM (ao 22 0 j.ah (dE.a _ _ aI) k!)<|CC<|VV OG<|CC<|MM VO<|CN 2<|ZZ) k!) k!) fB rfl
theorem bW.lf {h:ak} {e:TypeId} {k:IntKind} {v:AV} {L:List Int} (x:bW h k e v L) (hn:0<L.length):pa v=some (zs k L).length∧eO h 1 (zs k L).length v=some (zs k L):=by
 have ln:(zs k L).length=L.length:=kJ k L
 rw[ln]
 rcases x.at_.block with h0 | ⟨p',o,m,c,b,C,f,ro,h1,_,h2,h3⟩
 · omega
 · subst h1
   have hm:m=L.length:=by
    have:=x.at_.lens
    rw[gG] at this
    simp only[Option.some.injEq,AV.int.injEq,true_and] at this
    omega
   subst hm
   have hC:o+L.length≤C.length:=by
    have:=h3 (L.length - 1) o!
    rw[List.getElem?_eq_getElem (l:=zs k L) o!] at this
    have:=(List.getElem?_eq_some_iff.1 this).1
    omega
   refine ⟨rfl,?_⟩
   simp only[eO,h2,Nat.le_refl,if_true,if_neg (show ¬L.length=0 by omega),Nat.mul_one]
   rw[if_pos hC]
   congr 1
   apply List.ext_getElem?
   intro j
   by_cases hj:j<L.length
   · rw[List.getElem?_take_of_lt hj,List.getElem?_drop,h3 j o!]
   · rw[List.getElem?_eq_none (by rw[List.length_take];omega),List.getElem?_eq_none o!]
theorem O' {h h0:ak} {e s xt:TypeId} {tys:Array TypeId} {bytes p:Nat} {k:IntKind} {z0 v:AV} {L:List Int} {i:Int} (y:Tidy h) (y0:Tidy h0) (a:Has h0 h) (hle:h0.nx≤h.nx) (hp:h.get p=some (.cells [.int k i] e false)) (hpn:h0.nx≤p) (x:bW h k e v L) (hn:L≠ []) (hl:L.length≤1000000)
 (t0:tys[0]? =some s) (t1:tys[1]? =some xt) (hs:env.P.underlying s=some (.slice e)) (hx:env.P.underlying xt=some (.slice e)) (JL:bQ env e=some 1) (hb:gD env e=some bytes) (Au:fl env e=some z0) (hz:z0.cells.length=1) (h8:bytes≤63):
 ∃z h',cP env h tys (.slice p 0 1 1 false) v=some (z,h')∧Tidy h'∧h.nx≤h'.nx∧Has h0 h'∧dc e h0 h' z (zs k (i::L)):=by
 have q:=x.lf (List.length_pos_iff.2 hn)
 have o:dc e h0 h (.slice p 0 1 1 false) [.int k i]:= .inr ⟨by simp,p,false,rfl,hpn,hp⟩
 obtain ⟨z,h',e1,y1,n1,a1,o1⟩:=dc.app (M:=zs k L) y y0 a hle o t0 t1 hs hx rfl JL hb Au hz h8 q.1 q.2 (LI k L) (fun e=>hn (List.length_eq_zero_iff.1 (by have:=congrArg List.length e;rwa [kJ] at this))) (by rw[kJ];simp;omega)
 exact ⟨z,h',e1,y1,n1,a1,o1⟩
def abF (j:cF):Nat→Int→Int
 | 0,_=>0
 | n+1,t=>tO j t (abF j n) (fun _=>True)
theorem RN.XR {ts:List Task} {ρ:Nat→Nat} (A:Ac ts ρ) {n:Nat} {t:Int} (h:RN ts ρ (n+1) t):∀i:Nat,i<ts.length→∀q:Nat,q<(ts.g i).aq.length→(ts.g i).aq.g q=t→RN ts ρ n (i:Int):=fun i hi q hq e=>by
 have:=A.lt i hi q hq
 rw[e] at this
 refine ⟨by omega,by omega,?_⟩
 rw[Int.toNat_natCast]
 have:=h.2.2
 omega
theorem XS {d:Nat} {h:ak} {j:cF} (bF:aB.ok h j) {ρ:Nat→Nat} (A:Ac j.ab ρ):∀(n:Nat) (t:Int),RN j.ab ρ n t→∀hh,Tidy hh→Has h hh→cA (d+n) (.fn 27) [AV.agg [j.ah,j.ag],.int .i64 t] hh= .ret (.int .i64 (abF j n t)) hh
 | 0,t,r,_,_,_=>by have:=r.2.2;have:=A.le t.toNat;omega
 | n+1,t,r,hh,y,a=>by
   have:=LK (d:=d+n) j t (abF j n) (RN j.ab ρ n) (aB.mono a bF) (fun t' _ _ r' h2 y2 a2=>XS bF A n t' r' h2 y2 (a.trans a2)) r.1 r.2.1 (fun i hi q hq e=>r.XR A i hi q hq e) y
   exact this
def qF (j:cF) (t:Int):Int:=abF j 65 t
theorem S8 {d:Nat} {h:ak} (j:cF) (t:Int) (bF:aB.ok h j) (ly:0≤t) (pq:t<(j.ab.length:Int)) (v5:Ac j.ab (xU j.ab)) (AK:j.ab.length≤64) (y:Tidy h):cA (d+65) (.fn 27) [AV.agg [j.ah,j.ag],.int .i64 t] h= .ret (.int .i64 (qF j t)) h:=
 XS (d:=d) bF v5 65 t ⟨ly,pq,by omega⟩ h y (Has.refl _)
theorem og {j:cF} (h:cy j=0):eQ j:=Ln (by rw[cy] at h;exact h)
end
end Go.Proofs.aE
