import Derived.Test.YtijehnelcbdlgaaGreatW0
import Derived.Test.YtijehnelcbdlgaaGreatW2
import Derived.Test.YtijehnelcbdlgaaGreatW1
namespace Go.Proofs.aE
open Go.Proofs Ab
noncomputable section
set_option maxRecDepth 100000
set_option maxHeartbeats 4000000
set_option linter.unusedVariables false
set_option linter.unusedSimpArgs false
def pS:Code:=(Tryz.f72.body).getD .skip
theorem KV:Tryz.f72.body=some pS:=by kernel_rfl
def F':Code:=(bz pS).getD 0 .skip
def Ga:Code:=(bz pS).getD 1 .skip
def bw (ba:List Bool) (j:cF):Nat→Int→Int→Int
 | 0,dj,cG=>dj
 | n8+1,dj,cG=>(bif (decide (0≤cG)) then (bif (!(ba.g cG.toNat)) then (bif (il (j.ab.g cG.toNat) ba) then bw ba j n8 cG (cG - 1) else bw ba j n8 dj (cG - 1)) else bw ba j n8 dj (cG - 1)) else dj)
theorem mT {d:Nat} {h:ak} (j:cF) (z0:AV) (ba:List Bool) (dL:Nat) (lG:Nat) (ct:aH h j.ah j.ab) (fO:aH h j.ag j.ae) (qv:aB.ok h j) (sv:∀i,i<j.ab.length→∀q,q<(j.ab.g i).aq.length→0≤(j.ab.g i).aq.g q∧(j.ab.g i).aq.g q<(j.ab.length:Int)) (tx:j.ab.length≤100000) (xz:ba.length=j.ab.length):∀(k_:Nat) (dj:Int) (cG:Int) (_:(cG+1≤(k_:Int))) (_:((-1≤dj∧dj<(j.ab.length:Int)∧(0≤dj→ba.g dj.toNat=false))∧cG<(j.ab.length:Int))) (x:Nat→AV) (hh:ak) (az:Tidy hh) (aw:Has h hh) (ca:hh.get dL=some (aK.cells [j.ah,j.ag] 25 false)) (ju:hh.get lG=some (aK.cells (bs ba) 4 false)),bu (cA (d+1)) Ga ⟨((x 0)::(Pt dL)::(x 2)::(AV.slice lG 0 j.ab.length j.ab.length false)::z0::(Zi dj)::(Zi cG)::rx x 7 37 []),hh,[],.no⟩ (.exit 2) hh (fun r y=>((y 0)::(Pt dL)::(y 2)::(AV.slice lG 0 j.ab.length j.ab.length false)::z0::(Zi r)::rx y 6 38 [])) (fun r=>(-1≤r∧r<(j.ab.length:Int)∧(0≤r→ba.g r.toNat=false))) (bw ba j k_ dj cG)
 | 0,dj,cG,fK,dt,x,hh,az,aw,ca,ju=>by
   have kK:=ct.small
   have jr:=fO.small
   have so:=az _ _ ca
   have OL:=az _ _ ju
   have q1:(decide (0≤cG))=false:=d!
   exact bu.out dj rfl (pk (d+1) _ _ hh _ hh (CC<|VV (jf 3 false true .i64 cG 0)<|BB q1<|ZZ) k!) (bC.refl az) (show (-1≤dj∧dj<(j.ab.length:Int)∧(0≤dj→ba.g dj.toNat=false)) from (by first | omega | exact dt.1 | (refine ⟨⟨by omega,by omega,fun _=>?_⟩,by omega⟩;first | exact dt.1.2.2 o! | simp_all))) k!
 | n8+1,dj,cG,fK,dt,x,hh,az,aw,ca,ju=>by
   have kK:=ct.small
   have jr:=fO.small
   have so:=az _ _ ca
   have OL:=az _ _ ju
   have NB:=sv
   rcases Bool.eq_false_or_eq_true (decide (0≤cG)) with f0 | f0
   · have fw:=of_decide_eq_true f0
     have jE:b_ env (some (.slice 4)) (some (AV.slice lG 0 j.ab.length j.ab.length false)) (some (Zi cG))=some (AV.ptr lG cG.toNat):=xg k! (show cG.toNat<j.ab.length by omega) o!
     have ld3:bm env hh 4 (AV.ptr lG cG.toNat)=some (AV.bool (ba.g cG.toNat)):=VM k! ju l!
     rcases Bool.eq_false_or_eq_true (!(ba.g cG.toNat)) with f1 | f1
     · obtain ⟨p6,q7,IN⟩:=(ct.has aw).elem (i:=cG.toNat) o!
       have R4:b_ env (some (.slice 48)) (some j.ah) (some (Zi cG))=some (AV.ptr p6 q7):=by rw[show (cG:Int)=((cG.toNat:Nat):Int) by omega];exact IN
       have XA:bm env hh 48 (AV.ptr p6 q7)=some (AV.agg [(AV.str (j.ab.g cG.toNat).name),(Zi (j.ab.g cG.toNat).aL),(j.ab.g cG.toNat).aG,(j.ab.g cG.toNat).bq]):=(ct.has aw).load o! IN
       have k9:=OP (d:=d) (j.ab.g cG.toNat) ba ((ct.has aw).ok (i:=cG.toNat) o!) (rl.own (op:=false) (n:=j.ab.length) k! k! ju l! o!) (by first | omega | assumption | (intro q hq;have q_:=NB _ o! q hq;omega)) az
       rcases Bool.eq_false_or_eq_true (il (j.ab.g cG.toNat) ba) with f2 | f2
       · have w11:IntKind.i64.wrap (cG - 1)=cG - 1:=wrap_i64 o! o!
         exact bu.round (by simp only[bw,f0,f1,f2,aj,af]) (pk (d+1) _ _ hh _ hh (CC<|VV (jf 3 false true .i64 cG 0)<|BB f0<|CN 2<|VV jE<|MM ld3<|CN 2<|BC f1<|BM f1 (ao 22 0 j.ah ca k!)<|BC f1<|BV f1 R4<|BM f1 XA<|BC f1<|BB f1<|EE k9<|VV (nK (il (j.ab.g cG.toNat) ba) false f1)<|BB f2<|CN 3<|VV (Fu 3 false true w11)<|CC<|ZZ) k!) (bC.refl az) _ k! (fun x=>mT j z0 ba dL lG ct fO qv sv tx xz n8 cG (cG - 1) o! (show ((-1≤cG∧cG<(j.ab.length:Int)∧(0≤cG→ba.g cG.toNat=false))∧(cG - 1)<(j.ab.length:Int)) from (by first | omega | exact dt.1 | (refine ⟨⟨by omega,by omega,fun _=>?_⟩,by omega⟩;first | exact dt.1.2.2 o! | simp_all))) x hh az aw ca ju)
       · have w11:IntKind.i64.wrap (cG - 1)=cG - 1:=wrap_i64 o! o!
         exact bu.round (by simp only[bw,f0,f1,f2,aj,af]) (pk (d+1) _ _ hh _ hh (CC<|VV (jf 3 false true .i64 cG 0)<|BB f0<|CN 2<|VV jE<|MM ld3<|CN 2<|BC f1<|BM f1 (ao 22 0 j.ah ca k!)<|BC f1<|BV f1 R4<|BM f1 XA<|BC f1<|BB f1<|EE k9<|VV (nK (il (j.ab.g cG.toNat) ba) false f1)<|BC f2<|VV (Fu 3 false true w11)<|CC<|ZZ) k!) (bC.refl az) _ k! (fun x=>mT j z0 ba dL lG ct fO qv sv tx xz n8 dj (cG - 1) o! (show ((-1≤dj∧dj<(j.ab.length:Int)∧(0≤dj→ba.g dj.toNat=false))∧(cG - 1)<(j.ab.length:Int)) from (by first | omega | exact dt.1 | (refine ⟨⟨by omega,by omega,fun _=>?_⟩,by omega⟩;first | exact dt.1.2.2 o! | simp_all))) x hh az aw ca ju)
     · have w5:IntKind.i64.wrap (cG - 1)=cG - 1:=wrap_i64 o! o!
       exact bu.round (by simp only[bw,f0,f1,aj,af]) (pk (d+1) _ _ hh _ hh (CC<|VV (jf 3 false true .i64 cG 0)<|BB f0<|CN 2<|VV jE<|MM ld3<|CN 2<|BB f1<|BB f1<|BB f1<|BB f1<|BB f1<|BB f1<|BV f1 (vK false f1)<|FF<|CC<|VV (Fu 3 false true w5)<|CC<|ZZ) k!) (bC.refl az) _ k! (fun x=>mT j z0 ba dL lG ct fO qv sv tx xz n8 dj (cG - 1) o! (show ((-1≤dj∧dj<(j.ab.length:Int)∧(0≤dj→ba.g dj.toNat=false))∧(cG - 1)<(j.ab.length:Int)) from (by first | omega | exact dt.1 | (refine ⟨⟨by omega,by omega,fun _=>?_⟩,by omega⟩;first | exact dt.1.2.2 o! | simp_all))) x hh az aw ca ju)
   · have fw:=of_decide_eq_false f0
     exact bu.out dj (by simp only[bw,f0,aj,af]) (pk (d+1) _ _ hh _ hh (CC<|VV (jf 3 false true .i64 cG 0)<|BB f0<|ZZ) k!) (bC.refl az) (show (-1≤dj∧dj<(j.ab.length:Int)∧(0≤dj→ba.g dj.toNat=false)) from (by first | omega | exact dt.1 | (refine ⟨⟨by omega,by omega,fun _=>?_⟩,by omega⟩;first | exact dt.1.2.2 o! | simp_all))) k!
def fC (j:cF):Nat→List Int→List Bool→List Int
 | 0,mE,ba=>default
 | c7+1,mE,ba=>(bif (decide ((bw ba j ((((j.ab.length:Nat):Int) - 1)+1).toNat (-1) (((j.ab.length:Nat):Int) - 1))<0)) then mE else fC j c7 (mE++[(bw ba j ((((j.ab.length:Nat):Int) - 1)+1).toNat (-1) (((j.ab.length:Nat):Int) - 1))]) (ba.set (bw ba j ((((j.ab.length:Nat):Int) - 1)+1).toNat (-1) (((j.ab.length:Nat):Int) - 1)).toNat true))
theorem vc {d:Nat} {h:ak} {gg0:ak} (j:cF) (bh:Nat) (dg:Nat) (aO:aH h j.ah j.ab) (bL:aH h j.ag j.ae) (gS:aB.ok h j) (gM:∀i,i<j.ab.length→∀q,q<(j.ab.g i).aq.length→0≤(j.ab.g i).aq.g q∧(j.ab.g i).aq.g q<(j.ab.length:Int)) (iS:j.ab.length≤100000) (bM:Tidy h) (pT:h.nx≤bh) (yX:h.nx≤dg) (oV:dg≠bh) (NG0:h.nx≤gg0.nx) (Ep:bh<gg0.nx) (Er:dg<gg0.nx):∀(k_:Nat) (mE:List Int) (ba:List Bool) (z0:AV) (_:((nF ba:Nat):Int)+1≤(k_:Int)) (_:(mE.length+nF ba=j.ab.length)) (x:Nat→AV) (hh:ak) (az:Tidy hh) (aw:Has h hh) (gv:h.nx≤hh.nx) (ng:ba.length=j.ab.length) (aM:hh.get bh=some (aK.cells [j.ah,j.ag] 25 false)) (cS:hh.get dg=some (aK.cells (bs ba) 4 false)) (G9:dc 3 gg0 hh z0 (zs .i64 mE)) (XB:mE.length≤1000000000) (zX:gg0.nx≤hh.nx),bI (σ:=List Bool) (ρ:=List Int) (cA (d+1)) F' ⟨((x 0)::(Pt bh)::(x 2)::(AV.slice dg 0 j.ab.length j.ab.length false)::z0::rx x 5 39 []),hh,[],.no⟩ (.exit 0) hh (fun r z y=>((y 0)::(Pt bh)::(y 2)::(AV.slice dg 0 j.ab.length j.ab.length false)::rx y 4 40 [])) (fun r z y=>((y 0)::(Pt bh)::z::(AV.slice dg 0 j.ab.length j.ab.length false)::rx y 4 40 [])) (fun r z hk=>True) (fun r z hk=>Has h hk∧dc 3 gg0 hk z (zs .i64 r)∧r.length≤1000000000) (Sum.inr (fC j k_ mE ba))
 | 0,mE,ba,z0,fK,dt,x,hh,az,aw,gv,ng,aM,cS,G9,XB,zX=>by
   exfalso;omega
 | c7+1,mE,ba,z0,fK,dt,x,hh,az,aw,gv,ng,aM,cS,G9,XB,zX=>by
   have bY:=aO.small
   have eD:=bL.small
   have jh:=az _ _ aM
   have Az:=az _ _ cS
   have NB:=gM
   have dx:bJ (some (.slice 48)) (some j.ah)=some (Zn j.ab.length):=aO.len
   have w2:IntKind.i64.wrap (((j.ab.length:Nat):Int) - 1)=((j.ab.length:Nat):Int) - 1:=wrap_i64 o! o!
   obtain ⟨VU,h4,gI,jL,mU⟩:=mT (d:=d) (h:=h) j z0 ba bh dg aO bL gS NB o! o! ((((j.ab.length:Nat):Int) - 1)+1).toNat (-1) (((j.ab.length:Nat):Int) - 1) o! (show ((-1≤(-1)∧(-1)<(j.ab.length:Int)∧(0≤(-1)→ba.g (-1).toNat=false))∧(((j.ab.length:Nat):Int) - 1)<(j.ab.length:Int)) from (by first | omega | exact dt.1 | (refine ⟨⟨by omega,by omega,fun _=>?_⟩,by omega⟩;first | exact dt.1.2.2 o! | simp_all))) (fun k_=>(((x 0)::(Pt bh)::(x 2)::(AV.slice dg 0 j.ab.length j.ab.length false)::z0::(Zi (-1))::(Zi (((j.ab.length:Nat):Int) - 1))::rx x 7 4 ((Pt bh)::j.ah::(Zn j.ab.length)::(Zi (((j.ab.length:Nat):Int) - 1))::rx x 15 29 [])):List AV).getD k_ AV.undef) hh az aw aM cS
   have ac7:=(show (-1≤(bw ba j ((((j.ab.length:Nat):Int) - 1)+1).toNat (-1) (((j.ab.length:Nat):Int) - 1))∧(bw ba j ((((j.ab.length:Nat):Int) - 1)+1).toNat (-1) (((j.ab.length:Nat):Int) - 1))<(j.ab.length:Int)∧(0≤(bw ba j ((((j.ab.length:Nat):Int) - 1)+1).toNat (-1) (((j.ab.length:Nat):Int) - 1))→ba.g (bw ba j ((((j.ab.length:Nat):Int) - 1)+1).toNat (-1) (((j.ab.length:Nat):Int) - 1)).toNat=false)) from mU)
   have nh:=jL.y
   have Dk:hh.nx≤h4.nx:=jL.n
   have lI:Has h h4:=aw.trans jL.a
   have MZ:Has hh h4:=jL.a
   rcases Bool.eq_false_or_eq_true (decide ((bw ba j ((((j.ab.length:Nat):Int) - 1)+1).toNat (-1) (((j.ab.length:Nat):Int) - 1))<0)) with f0 | f0
   · have fw:=of_decide_eq_true f0
     exact bI.ret mE z0 (congrArg Sum.inr (by simp only[fC,f0,aj,af])) (pk (d+1) _ _ hh _ h4 (CN 2<|MM (ao 22 0 j.ah aM k!)<|VV dx<|VV (Fu 3 false true w2)<|CC<|LL gI<|CC<|VV (aQ 3 false true .i64 (bw ba j ((((j.ab.length:Nat):Int) - 1)+1).toNat (-1) (((j.ab.length:Nat):Int) - 1)) 0)<|BB f0<|CN 2<|ZZ) k!) nh o! ⟨lI,(G9.has MZ),(by first | omega | (simp<;>omega))⟩ k!
   · have fw:=of_decide_eq_false f0
     have MW:b_ env (some (.slice 4)) (some (AV.slice dg 0 j.ab.length j.ab.length false)) (some (Zi (bw ba j ((((j.ab.length:Nat):Int) - 1)+1).toNat (-1) (((j.ab.length:Nat):Int) - 1))))=some (AV.ptr dg (bw ba j ((((j.ab.length:Nat):Int) - 1)+1).toNat (-1) (((j.ab.length:Nat):Int) - 1)).toNat):=xg k! (show (bw ba j ((((j.ab.length:Nat):Int) - 1)+1).toNat (-1) (((j.ab.length:Nat):Int) - 1)).toNat<j.ab.length by omega) o!
     obtain ⟨h7,ZC⟩:∃hq_:ak,hq_=h4.put dg (some (aK.cells (bs (ba.set (bw ba j ((((j.ab.length:Nat):Int) - 1)+1).toNat (-1) (((j.ab.length:Nat):Int) - 1)).toNat true)) 4 false)):=⟨_,rfl⟩
     have mF:eX env h4 4 (AV.ptr dg (bw ba j ((((j.ab.length:Nat):Int) - 1)+1).toNat (-1) (((j.ab.length:Nat):Int) - 1)).toNat) (AV.bool true)=some h7:=by rw[ZC];exact IB k! (jL.a _ _ cS) l!
     have R5:VI h4 h7 dg (aK.cells (bs (ba.set (bw ba j ((((j.ab.length:Nat):Int) - 1)+1).toNat (-1) (((j.ab.length:Nat):Int) - 1)).toNat true)) 4 false):=by rw[ZC];exact xf nh (jL.a _ _ cS)
     have eP:=R5.1
     have xq:h7.nx=h4.nx:=by rw[ZC];rfl
     have er:Has h h7:=R5.has lI bM o!
     obtain ⟨h8,KW,kh,RR,cY,po⟩:=ik eP (aK.cells [(Zi (bw ba j ((((j.ab.length:Nat):Int) - 1)+1).toNat (-1) (((j.ab.length:Nat):Int) - 1)))] 3 false)
     have iR:Has h h8:=er.trans po
     have Gb:Has h7 h8:=po
     obtain ⟨z10,h9,abI,rp,RQ,ZD,aeb⟩:=dc.VN (k:= .i64) (g:=gg0) (tys:= #[26,26]) (v:=(bw ba j ((((j.ab.length:Nat):Int) - 1)+1).toNat (-1) (((j.ab.length:Nat):Int) - 1))) (L:=mE) kh o! (((G9.has MZ).chg R5 o!).has Gb) cY (by first | omega | (simp<;>omega)) rfl rfl k! k! k! (bytes:=8) k! (z0:=Zi 0) k! rfl (by decide)
     have mw:Has h h9:=Has.FZ iR bM o! ZD
     exact bI.round (congrArg Sum.inr (by simp only[fC,f0,aj,af])) (pk (d+1) _ _ hh _ h9 (CN 2<|MM (ao 22 0 j.ah aM k!)<|VV dx<|VV (Fu 3 false true w2)<|CC<|LL gI<|CC<|VV (aQ 3 false true .i64 (bw ba j ((((j.ab.length:Nat):Int) - 1)+1).toNat (-1) (((j.ab.length:Nat):Int) - 1)) 0)<|BB f0<|CN 2<|VV MW<|SS mF<|CN 2<|NN KW (fun i=>(AV.slice i 0 1 1 false))<|PP (show cP env h8 #[26,26] z0 (AV.slice h7.nx 0 1 1 false)=some (z10,h9) from abI)<|CC<|ZZ) k!) o! _ k! (fun x=>vc j bh dg aO bL gS gM iS bM pT yX oV NG0 Ep Er c7 (mE++[(bw ba j ((((j.ab.length:Nat):Int) - 1)+1).toNat (-1) (((j.ab.length:Nat):Int) - 1))]) (ba.set (bw ba j ((((j.ab.length:Nat):Int) - 1)+1).toNat (-1) (((j.ab.length:Nat):Int) - 1)).toNat true) z10 (by have e_:=R3 o! o! (mU.2.2 o!);first | omega | (simp only[List.length_append,List.length_cons,List.length_nil];omega)) (show ((mE++[(bw ba j ((((j.ab.length:Nat):Int) - 1)+1).toNat (-1) (((j.ab.length:Nat):Int) - 1))]).length+nF (ba.set (bw ba j ((((j.ab.length:Nat):Int) - 1)+1).toNat (-1) (((j.ab.length:Nat):Int) - 1)).toNat true)=j.ab.length) from (by have e_:=R3 o! o! (mU.2.2 o!);first | omega | (simp only[List.length_append,List.length_cons,List.length_nil];omega))) x h9 rp mw o! l! (ZD _ _ o! (po _ _ (R5.2.2 _ _ o! (jL.a _ _ aM)))) (ZD _ _ o! (po _ _ R5.2.1)) aeb (by first | omega | (simp<;>omega)) o!)
def eF (j:cF):List Int:=(fC j (((nF (List.replicate j.ab.length false):Nat):Int)+1).toNat ([]) (List.replicate j.ab.length false))
theorem KX {d:Nat} {h:ak} (j:cF) (bF:aB.ok h j) (ly:∀i,i<j.ab.length→∀q,q<(j.ab.g i).aq.length→0≤(j.ab.g i).aq.g q∧(j.ab.g i).aq.g q<(j.ab.length:Int)) (pq:j.ab.length≤100000) (bM:Tidy h):∃z hk,cA (d+2) (.fn 72) [(AV.agg [j.ah,j.ag])] h= .ret z hk∧bC h hk∧bW hk .i64 3 z (eF j)∧dc 3 h hk z (zs .i64 (eF j)):=by
 have eS:=bF.1.small
 have eT:=bF.2.small
 obtain ⟨h1,bD,cb,ib,aI,cf⟩:=ik bM (aK.cells [j.ah,j.ag] 25 false)
 have bx:Has h h1:=cf
 have pB:bJ (some (.slice 48)) (some j.ah)=some (Zn j.ab.length):=bF.1.len
 have mk3:D' env (some (.slice 4)) (some (Zn j.ab.length)) (some (Zn j.ab.length))=some (aK.cells (da [(AV.bool false)] j.ab.length) 4 false,fun i=>AV.slice i 0 j.ab.length j.ab.length false):=yT (bytes:=1) (z:=(AV.bool false)) k! k! k! rfl (by decide) o!
 obtain ⟨h4,aec,nh,aed,ZE,abJ⟩:=ik cb (aK.cells (da [(AV.bool false)] j.ab.length) 4 false)
 have lI:Has h h4:=bx.trans abJ
 have abK:h4.get h1.nx=some (aK.cells (bs (List.replicate j.ab.length false)) 4 false):=by have q:=ZE;rw[KJ] at q;exact q
 obtain ⟨VW,OO,h6,nL,mD,R2,Cb,KY,ZF⟩:=bI.r rfl (vc (d:=d) (h:=h) (gg0:=h4) j h.nx h1.nx bF.1 bF.2 bF ly o! bM o! o! o! o! o! o! (((nF (List.replicate j.ab.length false):Nat):Int)+1).toNat ([]) (List.replicate j.ab.length false) AV.aD o! (show (([]).length+nF (List.replicate j.ab.length false)=j.ab.length) from (by rw[vP];simp)) (fun k_=>(((AV.agg [j.ah,j.ag])::(Pt h.nx)::AV.aD::(AV.slice h1.nx 0 j.ab.length j.ab.length false)::AV.aD::AV.undef::AV.undef::(Pt h.nx)::j.ah::(Zn j.ab.length)::(AV.slice h1.nx 0 j.ab.length j.ab.length false)::gB 33):List AV).getD k_ AV.undef) h4 nh lI o! l! (abJ _ _ aI) abK (.inl ⟨rfl,rfl⟩) (Nat.zero_le _) o!)
 have kW:Has h h6:=Cb
 have e:eF j=(fC j (((nF (List.replicate j.ab.length false):Nat):Int)+1).toNat ([]) (List.replicate j.ab.length false)):=by simp only[eF,aj,af]
 rw[e]
 have oz:=dc.le (h0:=h) KY o!
 exact ⟨VW,eZ rfl (aR Tryz.func72 KV rfl (.inr rfl) (pk (d+1) _ _ h _ h6 (NN bD (fun i=>(Pt i))<|CN 2<|MM (ao 22 0 j.ah aI k!)<|VV pB<|KK mk3 aec<|CN 2<|LL nL<|ZZ) k!) k!) bM ⟨mD,kW,by omega⟩ (P:=fun hh=>bW hh .i64 3 VW (fC j (((nF (List.replicate j.ab.length false):Nat):Int)+1).toNat ([]) (List.replicate j.ab.length false))∧dc 3 h hh VW (zs .i64 (fC j (((nF (List.replicate j.ab.length false):Nat):Int)+1).toNat ([]) (List.replicate j.ab.length false)))) ⟨oz.zs o! k! k!,oz⟩ fun v=>⟨oz.MT v k! k!,oz.MV v⟩⟩
theorem KZ {x:Int} (h:dD x=true):0≤x∧x≤100000:=by
 unfold dD at h
 by_cases q:0≤x
 · rw[decide_eq_true q] at h;exact ⟨q,of_decide_eq_true h⟩
 · rw[decide_eq_false q] at h;cases h
theorem pE {i0:Nat} {x:Task}:∀{k i:Nat} {r:Int},dG i0 x k i=some r→r≠0
 | 0,i,r,h=>by cases h
 | k+1,i,r,h=>by
   rw[dG] at h
   cases q:decide (x.aq.g i=x.aq.g i0) with
   | true=>rw[q] at h;cases h;decide
   | false=>rw[q] at h;exact pE (k:=k) h
theorem pF {i0:Nat} {x:Task}:∀{k i:Nat} {r:Int},dH i0 x k i=some r→r≠0
 | 0,i,r,h=>by cases h
 | k+1,i,r,h=>by
   rw[dH] at h
   cases q:decide ((x.aF.g i).ai=(x.aF.g i0).ai) with
   | true=>rw[q] at h;cases h;decide
   | false=>rw[q] at h;exact pF (k:=k) h
theorem lY {j:cF} {x:Task}:∀{k i:Nat},(cJ x j k i=none→∀q,i≤q→q<i+k→0≤x.aq.g q∧x.aq.g q<(j.ab.length:Int))∧(∀r,cJ x j k i=some r→r≠0)
 | 0,i=>⟨fun _ q h1 h2=>by omega,fun r h=>by cases h⟩
 | k+1,i=>by
   have ih:=lY (j:=j) (x:=x) (k:=k) (i:=i+1)
   rw[cJ]
   by_cases a:x.aq.g i<0
   · rw[decide_eq_true a];exact ⟨(fun h=>by cases h),(fun r h=>by cases h;decide)⟩
   · by_cases b:(j.ab.length:Int)≤x.aq.g i
     · rw[decide_eq_false a,decide_eq_true b];exact ⟨(fun h=>by cases h),(fun r h=>by cases h;decide)⟩
     · rw[decide_eq_false a,decide_eq_false b]
       cases c:dG i x i 0 with
       | some r0=>exact ⟨(fun h=>by cases h),(fun r h=>by cases h;exact pE c)⟩
       | none=>
         refine ⟨fun h q h1 h2=>?_,ih.2⟩
         by_cases e:q=i
         · rw[e];omega
         · exact ih.1 h q o! o!
theorem lZ {j:cF} {x:Task}:∀{k i:Nat},(b5 x j k i=none→∀q,i≤q→q<i+k→0≤(x.aF.g q).ai∧(x.aF.g q).ai<(j.ae.length:Int))∧(∀r,b5 x j k i=some r→r≠0)
 | 0,i=>⟨fun _ q h1 h2=>by omega,fun r h=>by cases h⟩
 | k+1,i=>by
   have ih:=lZ (j:=j) (x:=x) (k:=k) (i:=i+1)
   rw[b5]
   by_cases a:(x.aF.g i).ai<0
   · rw[decide_eq_true a];exact ⟨(fun h=>by cases h),(fun r h=>by cases h;decide)⟩
   · by_cases b:(j.ae.length:Int)≤(x.aF.g i).ai
     · rw[decide_eq_false a,decide_eq_true b];exact ⟨(fun h=>by cases h),(fun r h=>by cases h;decide)⟩
     · rw[decide_eq_false a,decide_eq_false b]
       cases c:dH i x i 0 with
       | some r0=>exact ⟨(fun h=>by cases h),(fun r h=>by cases h;exact pF c)⟩
       | none=>
         cases d1:decide ((x.aF.g i).aC<1) with
         | true=>exact ⟨(fun h=>by cases h),(fun r h=>by cases h;decide)⟩
         | false=>
           cases d2:decide (1000<(x.aF.g i).aC) with
           | true=>exact ⟨(fun h=>by cases h),(fun r h=>by cases h;decide)⟩
           | false=>
             cases d3:decide ((j.ae.g (Int.toNat (x.aF.g i).ai)).aC<(x.aF.g i).aC) with
             | true=>exact ⟨(fun h=>by cases h),(fun r h=>by cases h;decide)⟩
             | false=>
               refine ⟨fun h q h1 h2=>?_,ih.2⟩
               by_cases e:q=i
               · rw[e];omega
               · exact ih.1 h q o! o!
theorem Cd {j:cF} {x:Task} (h:cn j x=0):(0≤x.aL∧x.aL≤100000)∧(∀q,q<x.aq.length→0≤x.aq.g q∧x.aq.g q<(j.ab.length:Int))∧(∀q,q<x.aF.length→0≤(x.aF.g q).ai∧(x.aF.g q).ai<(j.ae.length:Int)):=by
 unfold cn at h
 cases t:dD x.aL with
 | false=>rw[t] at h;cases h
 | true=>
   rw[t] at h
   cases a:cJ x j x.aq.length 0 with
   | some r=>rw[a] at h;exact absurd h (lY.2 r a)
   | none=>
     rw[a] at h
     cases b:b5 x j x.aF.length 0 with
     | some r=>rw[b] at h;exact absurd h (lZ.2 r b)
     | none=>exact ⟨KZ t,fun q hq=>lY.1 a q o! o!,fun q hq=>lZ.1 b q o! o!⟩
def l4:Code:=(Tryz.f26.body).getD .skip
theorem ou:Tryz.f26.body=some l4:=by kernel_rfl
def IQ:Code:=(bz l4).getD 0 .skip
def IS:Code:=(bz l4).getD 1 .skip
def IT:Code:=(bz l4).getD 2 .skip
def IU:Code:=(bz l4).getD 3 .skip
def j1 (i0:Nat) (j:cF):Nat→Nat→Option (Int)
 | 0,_=>none
 | n8+1,i1=>(bif (decide ((j.ae.g i1).name=((j.ae.g i0).name))) then some 6 else j1 i0 j n8 (i1+1))
theorem ry {d:Nat} {h:ak} (i0:Nat) (j:cF) (dL:Nat) (ct:aH h j.ah j.ab) (fO:aH h j.ag j.ae) (qv:aB.ok h j) (nR:i0<j.ae.length):∀(k_ i_:Nat) (_:i_+k_=i0) (x:Nat→AV) (hh:ak) (az:Tidy hh) (aw:Has h hh) (ca:hh.get dL=some (aK.cells [j.ah,j.ag] 25 false)),aA (cA (d+2)) IS ⟨((x 0)::(Pt dL)::(x 2)::(Zn i0)::(Zn i_)::rx x 5 104 []),hh,[],.no⟩ (.exit 2) hh (fun y=>((y 0)::(Pt dL)::(y 2)::(Zn i0)::rx y 4 105 [])) (fun r y=>((y 0)::(Pt dL)::(Zi r)::(Zn i0)::rx y 4 105 [])) (j1 i0 j k_ i_)
 | 0,i1,fK,x,hh,az,aw,ca=>by
   have kK:=ct.small
   have jr:=fO.small
   have so:=az _ _ ca
   have q1:(decide (((i1:Nat):Int)<((i0:Nat):Int)))=false:=d!
   exact aA.out rfl (pk (d+2) _ _ hh _ hh (CN 2<|VV (aQ 3 false false .i64 ((i1:Nat):Int) ((i0:Nat):Int))<|BB q1<|ZZ) k!) (bC.refl az) k!
 | n8+1,i1,fK,x,hh,az,aw,ca=>by
   have kK:=ct.small
   have jr:=fO.small
   have so:=az _ _ ca
   have q1:(decide (((i1:Nat):Int)<((i0:Nat):Int)))=true:=d!
   obtain ⟨p3,q4,eb⟩:=(fO.has aw).elem (i:=i1) o!
   have jE:b_ env (some (.slice 45)) (some j.ag) (some (Zn i1))=some (AV.ptr p3 q4):=eb
   have jK:bm env hh 9 (AV.ptr p3 (q4+0))=some (AV.str (j.ae.g i1).name):=(fO.has aw).part (t:=9) (j:=0) o! eb k! rfl
   obtain ⟨p7,q8,IL⟩:=(fO.has aw).elem (i:=i0) o!
   have MW:b_ env (some (.slice 45)) (some j.ag) (some (Zn i0))=some (AV.ptr p7 q8):=IL
   have MX:bm env hh 9 (AV.ptr p7 (q8+0))=some (AV.str (j.ae.g i0).name):=(fO.has aw).part (t:=9) (j:=0) o! IL k! rfl
   have JQ:AV.same 20 j.ag j.ag=true:=(fO.has aw).same 19
   rcases Bool.eq_false_or_eq_true (decide ((j.ae.g i1).name=((j.ae.g i0).name))) with f1 | f1
   · have ea:=of_decide_eq_true f1
     exact aA.ret 6 (by simp only[j1,f1,aj,af]) (pk (d+2) _ _ hh _ hh (CN 2<|VV (aQ 3 false false .i64 ((i1:Nat):Int) ((i0:Nat):Int))<|BC q1<|MM (ao 23 1 j.ag ca k!)<|CC<|VV jE<|CC<|MM jK<|CC<|MM (ao 23 1 j.ag ca k!)<|CC<|VV MW<|CC<|MM MX<|VV (Iy 9 false false (j.ae.g i1).name (j.ae.g i0).name)<|HH (ao 23 1 j.ag ca k!)<|HH JQ<|HH jK<|HH (show AV.same 20 (AV.str (j.ae.g i1).name) (AV.str (j.ae.g i1).name)=true from fT 19 _)<|HH (ao 23 1 j.ag ca k!)<|HH JQ<|HH MX<|HH (show AV.same 20 (AV.str (j.ae.g i0).name) (AV.str (j.ae.g i0).name)=true from fT 19 _)<|BC f1<|ZZ) k!) (bC.refl az) k!
   · have ea:=of_decide_eq_false f1
     have OI:=ew 3 false true i1 1 o!
     exact aA.round (by simp only[j1,f1,aj,af]) (pk (d+2) _ _ hh _ hh (CN 2<|VV (aQ 3 false false .i64 ((i1:Nat):Int) ((i0:Nat):Int))<|BC q1<|MM (ao 23 1 j.ag ca k!)<|CC<|VV jE<|CC<|MM jK<|CC<|MM (ao 23 1 j.ag ca k!)<|CC<|VV MW<|CC<|MM MX<|VV (Iy 9 false false (j.ae.g i1).name (j.ae.g i0).name)<|HH (ao 23 1 j.ag ca k!)<|HH JQ<|HH jK<|HH (show AV.same 20 (AV.str (j.ae.g i1).name) (AV.str (j.ae.g i1).name)=true from fT 19 _)<|HH (ao 23 1 j.ag ca k!)<|HH JQ<|HH MX<|HH (show AV.same 20 (AV.str (j.ae.g i0).name) (AV.str (j.ae.g i0).name)=true from fT 19 _)<|BC f1<|VV OI<|CC<|ZZ) k!) (bC.refl az) _ k! (fun x=>ry i0 j dL ct fO qv nR n8 (i1+1) o! x hh az aw ca)
def ic (j:cF):Nat→Nat→Option (Int)
 | 0,_=>none
 | c7+1,i0=>(bif (!(dU (j.ae.g i0).name)) then some 5 else (match (j1 i0 j i0 0) with | none=>(bif (!decide ((bG (j.ae.g i0))=0)) then some (bG (j.ae.g i0)) else ic j c7 (i0+1)) | some ZG=>some ZG))
theorem rz {d:Nat} {h:ak} (j:cF) (bh:Nat) (aO:aH h j.ah j.ab) (bL:aH h j.ag j.ae) (gS:aB.ok h j):∀(k_ i_:Nat) (_:i_+k_=j.ae.length) (x:Nat→AV) (hh:ak) (az:Tidy hh) (aw:Has h hh) (aM:hh.get bh=some (aK.cells [j.ah,j.ag] 25 false)),aA (cA (d+2)) IQ ⟨((x 0)::(Pt bh)::(x 2)::(Zn i_)::rx x 4 105 []),hh,[],.no⟩ (.exit 0) hh (fun y=>((y 0)::(Pt bh)::rx y 2 107 [])) (fun r y=>((y 0)::(Pt bh)::(Zi r)::rx y 3 106 [])) (ic j k_ i_)
 | 0,i0,fK,x,hh,az,aw,aM=>by
   have bY:=aO.small
   have eD:=bL.small
   have jh:=az _ _ aM
   have dx:bJ (some (.slice 45)) (some j.ag)=some (Zn j.ae.length):=(bL.has aw).len
   have q2:(decide (((i0:Nat):Int)<((j.ae.length:Nat):Int)))=false:=d!
   exact aA.out rfl (pk (d+2) _ _ hh _ hh (CN 2<|MM (ao 23 1 j.ag aM k!)<|VV dx<|VV (aQ 3 false false .i64 ((i0:Nat):Int) ((j.ae.length:Nat):Int))<|BB q2<|ZZ) k!) (bC.refl az) k!
 | c7+1,i0,fK,x,hh,az,aw,aM=>by
   have bY:=aO.small
   have eD:=bL.small
   have jh:=az _ _ aM
   have dx:bJ (some (.slice 45)) (some j.ag)=some (Zn j.ae.length):=(bL.has aw).len
   have q2:(decide (((i0:Nat):Int)<((j.ae.length:Nat):Int)))=true:=d!
   obtain ⟨p4,q5,jW⟩:=(bL.has aw).elem (i:=i0) o!
   have kV:b_ env (some (.slice 45)) (some j.ag) (some (Zn i0))=some (AV.ptr p4 q5):=jW
   have lX:bm env hh 9 (AV.ptr p4 (q5+0))=some (AV.str (j.ae.g i0).name):=(bL.has aw).part (t:=9) (j:=0) o! jW k! rfl
   have k7:=IJ (d:=d+1) (j.ae.g i0).name ((bL.has aw).ok (i:=i0) o!).1 az
   rcases Bool.eq_false_or_eq_true (!(dU (j.ae.g i0).name)) with f1 | f1
   · exact aA.ret 5 (by simp only[ic,f1,aj,af]) (pk (d+2) _ _ hh _ hh (CN 2<|MM (ao 23 1 j.ag aM k!)<|VV dx<|VV (aQ 3 false false .i64 ((i0:Nat):Int) ((j.ae.length:Nat):Int))<|BC q2<|MM (ao 23 1 j.ag aM k!)<|CC<|VV kV<|CC<|MM lX<|EE k7<|CC<|BC f1<|ZZ) k!) (bC.refl az) k!
   · cases oW:j1 i0 j i0 0 with
     | none=>
       obtain ⟨yl9,tz,rA,iE⟩:=aA.n oW (ry (d:=d) (h:=hh) i0 j bh (aO.has aw) (bL.has aw) (aB.mono aw gS) o! i0 0 o! (fun k_=>(((x 0)::(Pt bh)::(x 2)::(Zn i0)::(Zi 0)::rx x 5 8 ((Zn i0)::(AV.ptr bh 1)::j.ag::(Zn j.ae.length)::(AV.bool (decide (((i0:Nat):Int)<((j.ae.length:Nat):Int))))::(x 18)::(x 19)::(AV.ptr bh 1)::j.ag::(Zn i0)::(AV.ptr p4 q5)::(AV.ptr p4 (q5+0))::(AV.str (j.ae.g i0).name)::(AV.bool (dU (j.ae.g i0).name))::(AV.bool (!(dU (j.ae.g i0).name)))::rx x 28 81 [])):List AV).getD k_ AV.undef) hh az (Has.refl _) aM)
       have ku:=iE.y
       have R6:hh.nx≤tz.nx:=iE.n
       have jF:Has hh tz:=iE.a
       obtain ⟨IV,IW,ni⟩:=(bL.has aw).elem (i:=i0) o!
       have vQ:b_ env (some (.slice 45)) (some j.ag) (some (Zn i0))=some (AV.ptr IV IW):=ni
       have rC:bm env tz 45 (AV.ptr IV IW)=some (AV.agg [(AV.str (j.ae.g i0).name),(Zi (j.ae.g i0).aC),(j.ae.g i0).cE]):=((bL.has aw).has jF).load o! ni
       have Y8:=xr (d:=d) (j.ae.g i0) (aB.mono jF ((bL.has aw).ok (i:=i0) o!)) ku
       rcases Bool.eq_false_or_eq_true (!decide ((bG (j.ae.g i0))=0)) with f3 | f3
       · have mu:=C2 f3
         exact aA.ret (bG (j.ae.g i0)) (by simp only[ic,f1,oW,f3,aj,af]) (pk (d+2) _ _ hh _ tz (CN 2<|MM (ao 23 1 j.ag aM k!)<|VV dx<|VV (aQ 3 false false .i64 ((i0:Nat):Int) ((j.ae.length:Nat):Int))<|BC q2<|MM (ao 23 1 j.ag aM k!)<|CC<|VV kV<|CC<|MM lX<|EE k7<|CC<|BC f1<|LL rA<|CC<|MM (ao 23 1 j.ag (iE.a _ _ aM) k!)<|CC<|VV vQ<|MM rC<|EE Y8<|CN 2<|VV (eC 31 false true .i64 (bG (j.ae.g i0)) 0)<|BB f3<|CN 2<|ZZ) k!) (⟨ku,jF,by omega⟩) k!
       · have mu:=C3 f3
         have u17:=ew 3 false true i0 1 o!
         exact aA.round (by simp only[ic,f1,oW,f3,aj,af]) (pk (d+2) _ _ hh _ tz (CN 2<|MM (ao 23 1 j.ag aM k!)<|VV dx<|VV (aQ 3 false false .i64 ((i0:Nat):Int) ((j.ae.length:Nat):Int))<|BC q2<|MM (ao 23 1 j.ag aM k!)<|CC<|VV kV<|CC<|MM lX<|EE k7<|CC<|BC f1<|LL rA<|CC<|MM (ao 23 1 j.ag (iE.a _ _ aM) k!)<|CC<|VV vQ<|MM rC<|EE Y8<|CN 2<|VV (eC 31 false true .i64 (bG (j.ae.g i0)) 0)<|BC f3<|VV u17<|CC<|ZZ) k!) (⟨ku,jF,by omega⟩) _ k! (fun x=>rz j bh aO bL gS c7 (i0+1) o! x tz ku (aw.trans jF) (iE.a _ _ aM))
     | some ZG=>
       obtain ⟨yl9,tz,rA,iE⟩:=aA.r oW (ry (d:=d) (h:=hh) i0 j bh (aO.has aw) (bL.has aw) (aB.mono aw gS) o! i0 0 o! (fun k_=>(((x 0)::(Pt bh)::(x 2)::(Zn i0)::(Zi 0)::rx x 5 8 ((Zn i0)::(AV.ptr bh 1)::j.ag::(Zn j.ae.length)::(AV.bool (decide (((i0:Nat):Int)<((j.ae.length:Nat):Int))))::(x 18)::(x 19)::(AV.ptr bh 1)::j.ag::(Zn i0)::(AV.ptr p4 q5)::(AV.ptr p4 (q5+0))::(AV.str (j.ae.g i0).name)::(AV.bool (dU (j.ae.g i0).name))::(AV.bool (!(dU (j.ae.g i0).name)))::rx x 28 81 [])):List AV).getD k_ AV.undef) hh az (Has.refl _) aM)
       have ku:=iE.y
       have R6:hh.nx≤tz.nx:=iE.n
       have jF:Has hh tz:=iE.a
       exact aA.ret ZG (by simp only[ic,f1,oW,aj,af]) (pk (d+2) _ _ hh _ tz (CN 2<|MM (ao 23 1 j.ag aM k!)<|VV dx<|VV (aQ 3 false false .i64 ((i0:Nat):Int) ((j.ae.length:Nat):Int))<|BC q2<|MM (ao 23 1 j.ag aM k!)<|CC<|VV kV<|CC<|MM lX<|EE k7<|CC<|BC f1<|LL rA<|ZZ) k!) (⟨ku,jF,by omega⟩) k!
def gJ (i2:Nat) (j:cF):Nat→Nat→Option (Int)
 | 0,_=>none
 | Zm+1,i3=>(bif (decide ((j.ab.g i3).name=((j.ab.g i2).name))) then some 6 else gJ i2 j Zm (i3+1))
theorem rD {d:Nat} {h:ak} (i2:Nat) (j:cF) (B6:Nat) (AB:aH h j.ah j.ab) (KR:aH h j.ag j.ae) (Zp:aB.ok h j) (RY:i2<j.ab.length):∀(k_ i_:Nat) (_:i_+k_=i2) (x:Nat→AV) (hh:ak) (az:Tidy hh) (aw:Has h hh) (rq:hh.get B6=some (aK.cells [j.ah,j.ag] 25 false)),aA (cA (d+2)) IU ⟨((x 0)::(Pt B6)::rx x 2 4 ((Zn i2)::(Zn i_)::rx x 8 101 [])),hh,[],.no⟩ (.exit 6) hh (fun y=>((y 0)::(Pt B6)::rx y 2 4 ((Zn i2)::rx y 7 102 []))) (fun r y=>((y 0)::(Pt B6)::(Zi r)::rx y 3 3 ((Zn i2)::rx y 7 102 []))) (gJ i2 j k_ i_)
 | 0,i3,fK,x,hh,az,aw,rq=>by
   have KS:=AB.small
   have KT:=KR.small
   have Zs:=az _ _ rq
   have q1:(decide (((i3:Nat):Int)<((i2:Nat):Int)))=false:=d!
   exact aA.out rfl (pk (d+2) _ _ hh _ hh (CN 2<|VV (aQ 3 false false .i64 ((i3:Nat):Int) ((i2:Nat):Int))<|BB q1<|ZZ) k!) (bC.refl az) k!
 | Zm+1,i3,fK,x,hh,az,aw,rq=>by
   have KS:=AB.small
   have KT:=KR.small
   have Zs:=az _ _ rq
   have q1:(decide (((i3:Nat):Int)<((i2:Nat):Int)))=true:=d!
   obtain ⟨p3,q4,eb⟩:=(AB.has aw).elem (i:=i3) o!
   have jE:b_ env (some (.slice 48)) (some j.ah) (some (Zn i3))=some (AV.ptr p3 q4):=eb
   have jK:bm env hh 9 (AV.ptr p3 (q4+0))=some (AV.str (j.ab.g i3).name):=(AB.has aw).part (t:=9) (j:=0) o! eb k! rfl
   obtain ⟨p7,q8,IL⟩:=(AB.has aw).elem (i:=i2) o!
   have MW:b_ env (some (.slice 48)) (some j.ah) (some (Zn i2))=some (AV.ptr p7 q8):=IL
   have MX:bm env hh 9 (AV.ptr p7 (q8+0))=some (AV.str (j.ab.g i2).name):=(AB.has aw).part (t:=9) (j:=0) o! IL k! rfl
   have JQ:AV.same 20 j.ah j.ah=true:=(AB.has aw).same 19
   rcases Bool.eq_false_or_eq_true (decide ((j.ab.g i3).name=((j.ab.g i2).name))) with f1 | f1
   · have ea:=of_decide_eq_true f1
     exact aA.ret 6 (by simp only[gJ,f1,aj,af]) (pk (d+2) _ _ hh _ hh (CN 2<|VV (aQ 3 false false .i64 ((i3:Nat):Int) ((i2:Nat):Int))<|BC q1<|MM (ao 22 0 j.ah rq k!)<|CC<|VV jE<|CC<|MM jK<|CC<|MM (ao 22 0 j.ah rq k!)<|CC<|VV MW<|CC<|MM MX<|VV (Iy 9 false false (j.ab.g i3).name (j.ab.g i2).name)<|HH (ao 22 0 j.ah rq k!)<|HH JQ<|HH jK<|HH (show AV.same 20 (AV.str (j.ab.g i3).name) (AV.str (j.ab.g i3).name)=true from fT 19 _)<|HH (ao 22 0 j.ah rq k!)<|HH JQ<|HH MX<|HH (show AV.same 20 (AV.str (j.ab.g i2).name) (AV.str (j.ab.g i2).name)=true from fT 19 _)<|BC f1<|ZZ) k!) (bC.refl az) k!
   · have ea:=of_decide_eq_false f1
     have OI:=ew 3 false true i3 1 o!
     exact aA.round (by simp only[gJ,f1,aj,af]) (pk (d+2) _ _ hh _ hh (CN 2<|VV (aQ 3 false false .i64 ((i3:Nat):Int) ((i2:Nat):Int))<|BC q1<|MM (ao 22 0 j.ah rq k!)<|CC<|VV jE<|CC<|MM jK<|CC<|MM (ao 22 0 j.ah rq k!)<|CC<|VV MW<|CC<|MM MX<|VV (Iy 9 false false (j.ab.g i3).name (j.ab.g i2).name)<|HH (ao 22 0 j.ah rq k!)<|HH JQ<|HH jK<|HH (show AV.same 20 (AV.str (j.ab.g i3).name) (AV.str (j.ab.g i3).name)=true from fT 19 _)<|HH (ao 22 0 j.ah rq k!)<|HH JQ<|HH MX<|HH (show AV.same 20 (AV.str (j.ab.g i2).name) (AV.str (j.ab.g i2).name)=true from fT 19 _)<|BC f1<|VV OI<|CC<|ZZ) k!) (bC.refl az) _ k! (fun x=>rD i2 j B6 AB KR Zp RY Zm (i3+1) o! x hh az aw rq)
def eG (j:cF):Nat→Nat→Option (Int)
 | 0,_=>none
 | RZ+1,i2=>(bif (!(dU (j.ab.g i2).name)) then some 5 else (match (gJ i2 j i2 0) with | none=>(bif (!decide ((cn j (j.ab.g i2))=0)) then some (cn j (j.ab.g i2)) else eG j RZ (i2+1)) | some ZG=>some ZG))
theorem rE {d:Nat} {h:ak} (j:cF) (lH:Nat) (mC:aH h j.ah j.ab) (oS:aH h j.ag j.ae) (Di:aB.ok h j):∀(k_ i_:Nat) (_:i_+k_=j.ab.length) (x:Nat→AV) (hh:ak) (az:Tidy hh) (aw:Has h hh) (fU:hh.get lH=some (aK.cells [j.ah,j.ag] 25 false)),aA (cA (d+2)) IT ⟨((x 0)::(Pt lH)::rx x 2 4 ((Zn i_)::rx x 7 102 [])),hh,[],.no⟩ (.exit 4) hh (fun y=>((y 0)::(Pt lH)::rx y 2 107 [])) (fun r y=>((y 0)::(Pt lH)::(Zi r)::rx y 3 106 [])) (eG j k_ i_)
 | 0,i2,fK,x,hh,az,aw,fU=>by
   have B8:=mC.small
   have B9:=oS.small
   have R1:=az _ _ fU
   have dx:bJ (some (.slice 48)) (some j.ah)=some (Zn j.ab.length):=(mC.has aw).len
   have q2:(decide (((i2:Nat):Int)<((j.ab.length:Nat):Int)))=false:=d!
   exact aA.out rfl (pk (d+2) _ _ hh _ hh (CN 2<|MM (ao 22 0 j.ah fU k!)<|VV dx<|VV (aQ 3 false false .i64 ((i2:Nat):Int) ((j.ab.length:Nat):Int))<|BB q2<|ZZ) k!) (bC.refl az) k!
 | RZ+1,i2,fK,x,hh,az,aw,fU=>by
   have B8:=mC.small
   have B9:=oS.small
   have R1:=az _ _ fU
   have dx:bJ (some (.slice 48)) (some j.ah)=some (Zn j.ab.length):=(mC.has aw).len
   have q2:(decide (((i2:Nat):Int)<((j.ab.length:Nat):Int)))=true:=d!
   obtain ⟨p4,q5,jW⟩:=(mC.has aw).elem (i:=i2) o!
   have kV:b_ env (some (.slice 48)) (some j.ah) (some (Zn i2))=some (AV.ptr p4 q5):=jW
   have lX:bm env hh 9 (AV.ptr p4 (q5+0))=some (AV.str (j.ab.g i2).name):=(mC.has aw).part (t:=9) (j:=0) o! jW k! rfl
   have k7:=IJ (d:=d+1) (j.ab.g i2).name ((mC.has aw).ok (i:=i2) o!).1 az
   rcases Bool.eq_false_or_eq_true (!(dU (j.ab.g i2).name)) with f1 | f1
   · exact aA.ret 5 (by simp only[eG,f1,aj,af]) (pk (d+2) _ _ hh _ hh (CN 2<|MM (ao 22 0 j.ah fU k!)<|VV dx<|VV (aQ 3 false false .i64 ((i2:Nat):Int) ((j.ab.length:Nat):Int))<|BC q2<|MM (ao 22 0 j.ah fU k!)<|CC<|VV kV<|CC<|MM lX<|EE k7<|CC<|BC f1<|ZZ) k!) (bC.refl az) k!
   · cases oW:gJ i2 j i2 0 with
     | none=>
       obtain ⟨yl9,tz,rA,iE⟩:=aA.n oW (rD (d:=d) (h:=hh) i2 j lH (mC.has aw) (oS.has aw) (aB.mono aw Di) o! i2 0 o! (fun k_=>(((x 0)::(Pt lH)::rx x 2 4 ((Zn i2)::(Zi 0)::rx x 8 51 ((Zn i2)::(Pt lH)::j.ah::(Zn j.ab.length)::(AV.bool (decide (((i2:Nat):Int)<((j.ab.length:Nat):Int))))::(x 64)::(x 65)::(Pt lH)::j.ah::(Zn i2)::(AV.ptr p4 q5)::(AV.ptr p4 (q5+0))::(AV.str (j.ab.g i2).name)::(AV.bool (dU (j.ab.g i2).name))::(AV.bool (!(dU (j.ab.g i2).name)))::rx x 74 35 []))):List AV).getD k_ AV.undef) hh az (Has.refl _) fU)
       have ku:=iE.y
       have R6:hh.nx≤tz.nx:=iE.n
       have jF:Has hh tz:=iE.a
       obtain ⟨IV,IW,ni⟩:=(mC.has aw).elem (i:=i2) o!
       have vQ:b_ env (some (.slice 48)) (some j.ah) (some (Zn i2))=some (AV.ptr IV IW):=ni
       have rC:bm env tz 48 (AV.ptr IV IW)=some (AV.agg [(AV.str (j.ab.g i2).name),(Zi (j.ab.g i2).aL),(j.ab.g i2).aG,(j.ab.g i2).bq]):=((mC.has aw).has jF).load o! ni
       have Y8:=Dj (d:=d) j (j.ab.g i2) (aB.mono jF (aB.mono aw Di)) (aB.mono jF ((mC.has aw).ok (i:=i2) o!)) ku
       have PI:AV.same 20 (AV.agg [j.ah,j.ag]) (AV.agg [j.ah,j.ag])=true:=iC 18 (th (mC.has aw).same (th (oS.has aw).same OA))
       have c17:AV.same 20 j.ah j.ah=true:=(mC.has aw).same 19
       have c18:AV.same 20 (AV.agg [(AV.str (j.ab.g i2).name),(Zi (j.ab.g i2).aL),(j.ab.g i2).aG,(j.ab.g i2).bq]) (AV.agg [(AV.str (j.ab.g i2).name),(Zi (j.ab.g i2).aL),(j.ab.g i2).aG,(j.ab.g i2).bq])=true:=iC 18 (th (fun n=>fT n _) (th (fun n=>aJ n _ _) (th ((mC.has aw).ok (i:=i2) o!).2.1.same (th ((mC.has aw).ok (i:=i2) o!).2.2.same OA))))
       rcases Bool.eq_false_or_eq_true (!decide ((cn j (j.ab.g i2))=0)) with f3 | f3
       · have mu:=C2 f3
         exact aA.ret (cn j (j.ab.g i2)) (by simp only[eG,f1,oW,f3,aj,af]) (pk (d+2) _ _ hh _ tz (CN 2<|MM (ao 22 0 j.ah fU k!)<|VV dx<|VV (aQ 3 false false .i64 ((i2:Nat):Int) ((j.ab.length:Nat):Int))<|BC q2<|MM (ao 22 0 j.ah fU k!)<|CC<|VV kV<|CC<|MM lX<|EE k7<|CC<|BC f1<|LL rA<|MM (ao 25 0 (AV.agg [j.ah,j.ag]) (iE.a _ _ fU) k!)<|CC<|MM (ao 22 0 j.ah (iE.a _ _ fU) k!)<|CC<|VV vQ<|MM rC<|EE Y8<|CC<|HH (ao 25 0 (AV.agg [j.ah,j.ag]) (iE.a _ _ fU) k!)<|HH PI<|HH (ao 22 0 j.ah (iE.a _ _ fU) k!)<|HH c17<|HH rC<|HH c18<|CC<|VV (eC 31 false true .i64 (cn j (j.ab.g i2)) 0)<|BB f3<|CN 2<|ZZ) k!) (⟨ku,jF,by omega⟩) k!
       · have mu:=C3 f3
         have u20:=ew 3 false true i2 1 o!
         exact aA.round (by simp only[eG,f1,oW,f3,aj,af]) (pk (d+2) _ _ hh _ tz (CN 2<|MM (ao 22 0 j.ah fU k!)<|VV dx<|VV (aQ 3 false false .i64 ((i2:Nat):Int) ((j.ab.length:Nat):Int))<|BC q2<|MM (ao 22 0 j.ah fU k!)<|CC<|VV kV<|CC<|MM lX<|EE k7<|CC<|BC f1<|LL rA<|MM (ao 25 0 (AV.agg [j.ah,j.ag]) (iE.a _ _ fU) k!)<|CC<|MM (ao 22 0 j.ah (iE.a _ _ fU) k!)<|CC<|VV vQ<|MM rC<|EE Y8<|CC<|HH (ao 25 0 (AV.agg [j.ah,j.ag]) (iE.a _ _ fU) k!)<|HH PI<|HH (ao 22 0 j.ah (iE.a _ _ fU) k!)<|HH c17<|HH rC<|HH c18<|CC<|VV (eC 31 false true .i64 (cn j (j.ab.g i2)) 0)<|BC f3<|VV u20<|CC<|ZZ) k!) (⟨ku,jF,by omega⟩) _ k! (fun x=>rE j lH mC oS Di RZ (i2+1) o! x tz ku (aw.trans jF) (iE.a _ _ fU))
     | some ZG=>
       obtain ⟨yl9,tz,rA,iE⟩:=aA.r oW (rD (d:=d) (h:=hh) i2 j lH (mC.has aw) (oS.has aw) (aB.mono aw Di) o! i2 0 o! (fun k_=>(((x 0)::(Pt lH)::rx x 2 4 ((Zn i2)::(Zi 0)::rx x 8 51 ((Zn i2)::(Pt lH)::j.ah::(Zn j.ab.length)::(AV.bool (decide (((i2:Nat):Int)<((j.ab.length:Nat):Int))))::(x 64)::(x 65)::(Pt lH)::j.ah::(Zn i2)::(AV.ptr p4 q5)::(AV.ptr p4 (q5+0))::(AV.str (j.ab.g i2).name)::(AV.bool (dU (j.ab.g i2).name))::(AV.bool (!(dU (j.ab.g i2).name)))::rx x 74 35 []))):List AV).getD k_ AV.undef) hh az (Has.refl _) fU)
       have ku:=iE.y
       have R6:hh.nx≤tz.nx:=iE.n
       have jF:Has hh tz:=iE.a
       exact aA.ret ZG (by simp only[eG,f1,oW,aj,af]) (pk (d+2) _ _ hh _ tz (CN 2<|MM (ao 22 0 j.ah fU k!)<|VV dx<|VV (aQ 3 false false .i64 ((i2:Nat):Int) ((j.ab.length:Nat):Int))<|BC q2<|MM (ao 22 0 j.ah fU k!)<|CC<|VV kV<|CC<|MM lX<|EE k7<|CC<|BC f1<|LL rA<|ZZ) k!) (⟨ku,jF,by omega⟩) k!
theorem vd {i2:Nat} {j:cF}:∀{k i:Nat} {r:Int},gJ i2 j k i=some r→r≠0
 | 0,i,r,h=>by cases h
 | k+1,i,r,h=>by
   rw[gJ] at h
   cases q:decide ((j.ab.g i).name=(j.ab.g i2).name) with
   | true=>rw[q] at h;cases h;decide
   | false=>rw[q] at h;exact vd (k:=k) h
theorem ve {j:cF}:∀{k i:Nat},(eG j k i=none→∀t,i≤t→t<i+k→cn j (j.ab.g t)=0)∧(∀r,eG j k i=some r→r≠0)
 | 0,i=>⟨fun _ q h1 h2=>by omega,fun r h=>by cases h⟩
 | k+1,i=>by
   have ih:=ve (j:=j) (k:=k) (i:=i+1)
   rw[eG]
   cases a:dU (j.ab.g i).name with
   | false=>exact ⟨(fun h=>by cases h),(fun r h=>by cases h;decide)⟩
   | true=>
     cases b:gJ i j i 0 with
     | some r0=>exact ⟨(fun h=>by cases h),(fun r h=>by cases h;exact vd b)⟩
     | none=>
       by_cases c:cn j (j.ab.g i)=0
       · rw[decide_eq_true c]
         refine ⟨fun h q h1 h2=>?_,ih.2⟩
         by_cases e:q=i
         · rw[e];exact c
         · exact ih.1 h q o! o!
       · rw[decide_eq_false c]
         exact ⟨(fun h=>by cases h),(fun r h=>by cases h;exact c)⟩
theorem Ce {j:cF} (h:eG j j.ab.length 0=none):∀i,i<j.ab.length→∀q,q<(j.ab.g i).aq.length→0≤(j.ab.g i).aq.g q∧(j.ab.g i).aq.g q<(j.ab.length:Int):=fun i hi=>(Cd (ve.1 h i o! o!)).2.1
def b9 (j:cF):Int:=(bif (decide (16<((j.ae.length:Nat):Int))) then 3 else (match (ic j j.ae.length 0) with | none=>(bif (decide (64<((j.ab.length:Nat):Int))) then 3 else (match (eG j j.ab.length 0) with | none=>(bif (!decide ((((eF j).length:Nat):Int)=((j.ab.length:Nat):Int))) then 11 else 0) | some Zg=>Zg)) | some vL=>vL))
theorem qx {d:Nat} {h:ak} (j:cF) (bF:aB.ok h j) (bM:Tidy h):cA (d+3) (.fn 26) [(AV.agg [j.ah,j.ag])] h= .ret (Zi (b9 j)) h:=by
 have eS:=bF.1.small
 have eT:=bF.2.small
 obtain ⟨h1,bD,cb,ib,aI,cf⟩:=ik bM (aK.cells [j.ah,j.ag] 25 false)
 have bx:Has h h1:=cf
 have pB:bJ (some (.slice 45)) (some j.ag)=some (Zn j.ae.length):=bF.2.len
 rcases Bool.eq_false_or_eq_true (decide (16<((j.ae.length:Nat):Int))) with f0 | f0
 · have fw:=of_decide_eq_true f0
   have e:b9 j=3:=by simp only[b9,f0,aj,af]
   rw[e]
   exact ax rfl (aR Tryz.func26 ou rfl (.inr rfl) (pk (d+2) _ _ h _ h1 (NN bD (fun i=>(Pt i))<|CN 2<|MM (ao 23 1 j.ag aI k!)<|VV pB<|VV (bK 3 false true .i64 ((j.ae.length:Nat):Int) 16)<|BC f0<|ZZ) k!) k!) bx rfl
 · have fw:=of_decide_eq_false f0
   cases cQ:ic j j.ae.length 0 with
   | none=>
     obtain ⟨tp,h5,cC,b4⟩:=aA.n cQ (rz (d:=d) (h:=h) j h.nx bF.1 bF.2 bF j.ae.length 0 o! (fun k_=>(((AV.agg [j.ah,j.ag])::(Pt h.nx)::(Zi 0)::(Zi 0)::AV.undef::AV.undef::AV.undef::AV.undef::AV.undef::(AV.ptr h.nx 1)::j.ag::(Zn j.ae.length)::(AV.bool (decide (16<((j.ae.length:Nat):Int))))::gB 96):List AV).getD k_ AV.undef) h1 cb bx aI)
     have js:=b4.y
     have ph:h1.nx≤h5.nx:=b4.n
     have eV:Has h h5:=bx.trans b4.a
     have AW:bJ (some (.slice 48)) (some j.ah)=some (Zn j.ab.length):=bF.1.len
     rcases Bool.eq_false_or_eq_true (decide (64<((j.ab.length:Nat):Int))) with f2 | f2
     · have jX:=of_decide_eq_true f2
       have e:b9 j=3:=by simp only[b9,f0,cQ,f2,aj,af]
       rw[e]
       exact ax rfl (aR Tryz.func26 ou rfl (.inr rfl) (pk (d+2) _ _ h _ h5 (NN bD (fun i=>(Pt i))<|CN 2<|MM (ao 23 1 j.ag aI k!)<|VV pB<|VV (bK 3 false true .i64 ((j.ae.length:Nat):Int) 16)<|BC f0<|LL cC<|CC<|MM (ao 22 0 j.ah (b4.a _ _ aI) k!)<|VV AW<|VV (bK 3 false true .i64 ((j.ab.length:Nat):Int) 64)<|BC f2<|ZZ) k!) k!) eV rfl
     · have jX:=of_decide_eq_false f2
       cases pP:eG j j.ab.length 0 with
       | none=>
         obtain ⟨yl8,h9,tv,kL⟩:=aA.n pP (rE (d:=d) (h:=h) j h.nx bF.1 bF.2 bF j.ab.length 0 o! (fun k_=>(((tp 0)::(Pt h.nx)::rx tp 2 4 ((Zi 0)::rx tp 7 48 ((Pt h.nx)::j.ah::(Zn j.ab.length)::(AV.bool (decide (64<((j.ab.length:Nat):Int))))::rx tp 59 50 []))):List AV).getD k_ AV.undef) h5 js eV (b4.a _ _ aI))
         have rp:=kL.y
         have RQ:h5.nx≤h9.nx:=kL.n
         have mw:Has h h9:=eV.trans kL.a
         have AY:Has h5 h9:=kL.a
         have pO:bJ (some (.slice 48)) (some j.ah)=some (Zn j.ab.length):=bF.1.len
         obtain ⟨rY,oT,Cf,du,OS,afl⟩:=KX (d:=d) j (aB.mono mw bF) (by first | omega | assumption | exact Ce (by assumption)) (by first | omega | assumption | exact Ce (by assumption)) rp
         have nf:=du.y
         have MY:h9.nx≤oT.nx:=du.n
         have lD:Has h oT:=mw.trans du.a
         have abL:Has h5 oT:=AY.trans du.a
         have abM:Has h9 oT:=du.a
         have ZH:=OS.small
         have abN:bJ (some (.slice 3)) (some rY)=some (Zn (eF j).length):=OS.len
         have VX:AV.same 20 (AV.agg [j.ah,j.ag]) (AV.agg [j.ah,j.ag])=true:=iC 18 (th bF.1.same (th bF.2.same OA))
         have PI:AV.same 20 j.ah j.ah=true:=bF.1.same 19
         rcases Bool.eq_false_or_eq_true (!decide ((((eF j).length:Nat):Int)=((j.ab.length:Nat):Int))) with f4 | f4
         · have tj:=C2 f4
           have e:b9 j=11:=by simp only[b9,f0,cQ,f2,pP,f4,aj,af]
           rw[e]
           exact ax rfl (aR Tryz.func26 ou rfl (.inr rfl) (pk (d+2) _ _ h _ oT (NN bD (fun i=>(Pt i))<|CN 2<|MM (ao 23 1 j.ag aI k!)<|VV pB<|VV (bK 3 false true .i64 ((j.ae.length:Nat):Int) 16)<|BC f0<|LL cC<|CC<|MM (ao 22 0 j.ah (b4.a _ _ aI) k!)<|VV AW<|VV (bK 3 false true .i64 ((j.ab.length:Nat):Int) 64)<|BC f2<|LL tv<|MM (ao 25 0 (AV.agg [j.ah,j.ag]) (kL.a _ _ (b4.a _ _ aI)) k!)<|CC<|MM (ao 22 0 j.ah (kL.a _ _ (b4.a _ _ aI)) k!)<|VV pO<|EE Cf<|VV abN<|VV (eC 3 false false .i64 (((eF j).length:Nat):Int) ((j.ab.length:Nat):Int))<|HH (ao 25 0 (AV.agg [j.ah,j.ag]) (kL.a _ _ (b4.a _ _ aI)) k!)<|HH VX<|HH (ao 22 0 j.ah (kL.a _ _ (b4.a _ _ aI)) k!)<|HH PI<|HH (ao 22 0 j.ah (du.a _ _ (kL.a _ _ (b4.a _ _ aI))) k!)<|HH PI<|BC f4<|ZZ) k!) k!) lD rfl
         · have tj:=C3 f4
           have e:b9 j=0:=by simp only[b9,f0,cQ,f2,pP,f4,aj,af]
           rw[e]
           exact ax rfl (aR Tryz.func26 ou rfl (.inr rfl) (pk (d+2) _ _ h _ oT (NN bD (fun i=>(Pt i))<|CN 2<|MM (ao 23 1 j.ag aI k!)<|VV pB<|VV (bK 3 false true .i64 ((j.ae.length:Nat):Int) 16)<|BC f0<|LL cC<|CC<|MM (ao 22 0 j.ah (b4.a _ _ aI) k!)<|VV AW<|VV (bK 3 false true .i64 ((j.ab.length:Nat):Int) 64)<|BC f2<|LL tv<|MM (ao 25 0 (AV.agg [j.ah,j.ag]) (kL.a _ _ (b4.a _ _ aI)) k!)<|CC<|MM (ao 22 0 j.ah (kL.a _ _ (b4.a _ _ aI)) k!)<|VV pO<|EE Cf<|VV abN<|VV (eC 3 false false .i64 (((eF j).length:Nat):Int) ((j.ab.length:Nat):Int))<|HH (ao 25 0 (AV.agg [j.ah,j.ag]) (kL.a _ _ (b4.a _ _ aI)) k!)<|HH VX<|HH (ao 22 0 j.ah (kL.a _ _ (b4.a _ _ aI)) k!)<|HH PI<|HH (ao 22 0 j.ah (du.a _ _ (kL.a _ _ (b4.a _ _ aI))) k!)<|HH PI<|BC f4<|ZZ) k!) k!) lD rfl
       | some Zg=>
         obtain ⟨yl8,h9,tv,kL⟩:=aA.r pP (rE (d:=d) (h:=h) j h.nx bF.1 bF.2 bF j.ab.length 0 o! (fun k_=>(((tp 0)::(Pt h.nx)::rx tp 2 4 ((Zi 0)::rx tp 7 48 ((Pt h.nx)::j.ah::(Zn j.ab.length)::(AV.bool (decide (64<((j.ab.length:Nat):Int))))::rx tp 59 50 []))):List AV).getD k_ AV.undef) h5 js eV (b4.a _ _ aI))
         have rp:=kL.y
         have RQ:h5.nx≤h9.nx:=kL.n
         have mw:Has h h9:=eV.trans kL.a
         have AY:Has h5 h9:=kL.a
         have e:b9 j=Zg:=by simp only[b9,f0,cQ,f2,pP,aj,af]
         rw[e]
         exact ax rfl (aR Tryz.func26 ou rfl (.inr rfl) (pk (d+2) _ _ h _ h9 (NN bD (fun i=>(Pt i))<|CN 2<|MM (ao 23 1 j.ag aI k!)<|VV pB<|VV (bK 3 false true .i64 ((j.ae.length:Nat):Int) 16)<|BC f0<|LL cC<|CC<|MM (ao 22 0 j.ah (b4.a _ _ aI) k!)<|VV AW<|VV (bK 3 false true .i64 ((j.ab.length:Nat):Int) 64)<|BC f2<|LL tv<|ZZ) k!) k!) mw rfl
   | some vL=>
     obtain ⟨tp,h5,cC,b4⟩:=aA.r cQ (rz (d:=d) (h:=h) j h.nx bF.1 bF.2 bF j.ae.length 0 o! (fun k_=>(((AV.agg [j.ah,j.ag])::(Pt h.nx)::(Zi 0)::(Zi 0)::AV.undef::AV.undef::AV.undef::AV.undef::AV.undef::(AV.ptr h.nx 1)::j.ag::(Zn j.ae.length)::(AV.bool (decide (16<((j.ae.length:Nat):Int))))::gB 96):List AV).getD k_ AV.undef) h1 cb bx aI)
     have js:=b4.y
     have ph:h1.nx≤h5.nx:=b4.n
     have eV:Has h h5:=bx.trans b4.a
     have e:b9 j=vL:=by simp only[b9,f0,cQ,aj,af]
     rw[e]
     exact ax rfl (aR Tryz.func26 ou rfl (.inr rfl) (pk (d+2) _ _ h _ h5 (NN bD (fun i=>(Pt i))<|CN 2<|MM (ao 23 1 j.ag aI k!)<|VV pB<|VV (bK 3 false true .i64 ((j.ae.length:Nat):Int) 16)<|BC f0<|LL cC<|ZZ) k!) k!) eV rfl
def Cg:Code:=(Tryz.f29.body).getD .skip
theorem VY:Tryz.f29.body=some Cg:=by kernel_rfl
def OT:Code:=(bz Cg).getD 0 .skip
def nj (x_:aZ) (below:Int):Nat→Nat→Int→Int
 | 0,_,aN=>aN
 | c7+1,i0,aN=>nj x_ below c7 (i0+1) (IntKind.i64.wrap (aN -(imax (IntKind.i64.wrap ((cd (IntKind.i64.wrap (((x_.off.g i0).aP)+1)) below) -((x_.off.g i0).bt))) 0)))
theorem Ch {d:Nat} {h:ak} (below:Int) (x_:aZ) (bh:Nat) (aO:x_.name.length<2^60) (bL:aH h x_.cE x_.off) (gS:aB.ok h x_):∀(k_ i_:Nat) (aN:Int) (_:i_+k_=x_.off.length) (x:Nat→AV) (hh:ak) (az:Tidy hh) (aw:Has h hh) (aM:hh.get bh=some (aK.cells [(AV.str x_.name),(Zi x_.aC),x_.cE] 45 false)),bu (cA (d)) OT ⟨((x 0)::(Zi below)::(Pt bh)::(x 3)::(x 4)::(Zi aN)::(Zn i_)::rx x 7 32 []),hh,[],.no⟩ (.exit 0) hh (fun r y=>((y 0)::(Zi below)::(Pt bh)::(y 3)::(y 4)::(Zi r)::rx y 6 33 [])) (fun r=>True) (nj x_ below k_ i_ aN)
 | 0,i0,aN,fK,x,hh,az,aw,aM=>by
   have eD:=bL.small
   have jh:=az _ _ aM
   have dx:bJ (some (.slice 52)) (some x_.cE)=some (Zn x_.off.length):=(bL.has aw).len
   have q2:(decide (((i0:Nat):Int)<((x_.off.length:Nat):Int)))=false:=d!
   exact bu.out aN rfl (pk (d) _ _ hh _ hh (CN 2<|MM (ao 43 2 x_.cE aM k!)<|VV dx<|VV (aQ 3 false false .i64 ((i0:Nat):Int) ((x_.off.length:Nat):Int))<|BB q2<|ZZ) k!) (bC.refl az) trivial k!
 | c7+1,i0,aN,fK,x,hh,az,aw,aM=>by
   have eD:=bL.small
   have jh:=az _ _ aM
   have dx:bJ (some (.slice 52)) (some x_.cE)=some (Zn x_.off.length):=(bL.has aw).len
   have q2:(decide (((i0:Nat):Int)<((x_.off.length:Nat):Int)))=true:=d!
   obtain ⟨p4,q5,jW⟩:=(bL.has aw).elem (i:=i0) o!
   have kV:b_ env (some (.slice 52)) (some x_.cE) (some (Zn i0))=some (AV.ptr p4 q5):=jW
   have lX:bm env hh 3 (AV.ptr p4 (q5+1))=some (Zi (x_.off.g i0).aP):=(bL.has aw).part (t:=3) (j:=1) o! jW k! rfl
   obtain ⟨p8,q9,tu⟩:=(bL.has aw).elem (i:=i0) o!
   have JP:b_ env (some (.slice 52)) (some x_.cE) (some (Zn i0))=some (AV.ptr p8 q9):=tu
   have sq:bm env hh 3 (AV.ptr p8 (q9+0))=some (Zi (x_.off.g i0).bt):=(bL.has aw).part (t:=3) (j:=0) o! tu k! rfl
   have OU:AV.same 20 x_.cE x_.cE=true:=(bL.has aw).same 19
   have OI:=ew 3 false true i0 1 o!
   exact bu.round (by simp only[nj,aj,af]) (pk (d) _ _ hh _ hh (CN 2<|MM (ao 43 2 x_.cE aM k!)<|VV dx<|VV (aQ 3 false false .i64 ((i0:Nat):Int) ((x_.off.length:Nat):Int))<|BB q2<|CN 2<|MM (ao 43 2 x_.cE aM k!)<|CC<|VV kV<|CC<|MM lX<|CN 4<|MM (ao 43 2 x_.cE aM k!)<|CC<|VV JP<|CC<|MM sq<|CN 4<|HH (ao 43 2 x_.cE aM k!)<|HH OU<|HH lX<|HH (show AV.same 20 (Zi (x_.off.g i0).aP) (Zi (x_.off.g i0).aP)=true from aJ 19 _ _)<|HH (ao 43 2 x_.cE aM k!)<|HH OU<|HH sq<|HH (show AV.same 20 (Zi (x_.off.g i0).bt) (Zi (x_.off.g i0).bt)=true from aJ 19 _ _)<|CC<|VV OI<|CC<|ZZ) k!) (bC.refl az) _ k! (fun x=>Ch below x_ bh aO bL gS c7 (i0+1) (IntKind.i64.wrap (aN -(imax (IntKind.i64.wrap ((cd (IntKind.i64.wrap (((x_.off.g i0).aP)+1)) below) -((x_.off.g i0).bt))) 0))) o! x hh az aw aM)
def nk (x_:aZ) (below:Int):Int:=(IntKind.i64.wrap ((nj x_ below x_.off.length 0 (imax below 0))*x_.aC))
theorem M1 {d:Nat} {h:ak} (x_:aZ) (below:Int) (fP:aB.ok h x_) (bM:Tidy h):cA (d+1) (.fn 29) [(AV.agg [(AV.str x_.name),(Zi x_.aC),x_.cE]),(Zi below)] h= .ret (Zi (nk x_ below)) h:=by
 have RU:=fP.2.small
 obtain ⟨h1,bD,cb,ib,aI,cf⟩:=ik bM (aK.cells [(AV.str x_.name),(Zi x_.aC),x_.cE] 45 false)
 have bx:Has h h1:=cf
 obtain ⟨Eo,h3,cW,dE,Gc⟩:=Ch (d:=d) (h:=h) below x_ h.nx fP.1 fP.2 fP x_.off.length 0 (imax below 0) o! (fun k_=>(((AV.agg [(AV.str x_.name),(Zi x_.aC),x_.cE])::(Zi below)::(Pt h.nx)::AV.undef::(Zi 0)::(Zi (imax below 0))::(Zi 0)::(Zi below)::(Zi (imax below 0))::gB 30):List AV).getD k_ AV.undef) h1 cb bx aI
 have j0:=dE.y
 have oU:h1.nx≤h3.nx:=dE.n
 have fB:Has h h3:=bx.trans dE.a
 have e:nk x_ below=(IntKind.i64.wrap ((nj x_ below x_.off.length 0 (imax below 0))*x_.aC)):=by simp only[nk,aj,af]
 rw[e]
 exact ax rfl (aR Tryz.func29 VY rfl (.inr rfl) (pk (d) _ _ h _ h3 (NN bD (fun i=>(Pt i))<|CN 5<|LL cW<|CN 2<|MM (ao 3 1 (Zi x_.aC) (dE.a _ _ aI) k!)<|CN 2<|ZZ) k!) k!) fB rfl
def zY:Code:=(Tryz.f40.body).getD .skip
theorem IX:Tryz.f40.body=some zY:=by kernel_rfl
def K1:Code:=(bz zY).getD 0 .skip
def gz (x_:Task) (ai:Int):Nat→Nat→Option (Int)
 | 0,_=>none
 | c7+1,i0=>(bif (decide ((x_.aF.g i0).ai=ai)) then some (x_.aF.g i0).aC else gz x_ ai c7 (i0+1))
theorem tA {d:Nat} {h:ak} (ai:Int) (x_:Task) (bh:Nat) (aO:x_.name.length<2^60) (bL:bW h .i64 3 x_.aG x_.aq) (jY:aH h x_.bq x_.aF) (gS:aB.ok h x_):∀(k_ i_:Nat) (_:i_+k_=x_.aF.length) (x:Nat→AV) (hh:ak) (az:Tidy hh) (aw:Has h hh) (aM:hh.get bh=some (aK.cells [(AV.str x_.name),(Zi x_.aL),x_.aG,x_.bq] 48 false)),aA (cA (d)) K1 ⟨((x 0)::(Zi ai)::(Pt bh)::(x 3)::(x 4)::(Zn i_)::rx x 6 21 []),hh,[],.no⟩ (.exit 0) hh (fun y=>((y 0)::(Zi ai)::(Pt bh)::rx y 3 24 [])) (fun r y=>((y 0)::(Zi ai)::(Pt bh)::(y 3)::(Zi r)::rx y 5 22 [])) (gz x_ ai k_ i_)
 | 0,i0,fK,x,hh,az,aw,aM=>by
   have eD:=bL.small
   have vO:=jY.small
   have jh:=az _ _ aM
   have dx:bJ (some (.slice 50)) (some x_.bq)=some (Zn x_.aF.length):=(jY.has aw).len
   have q2:(decide (((i0:Nat):Int)<((x_.aF.length:Nat):Int)))=false:=d!
   exact aA.out rfl (pk (d) _ _ hh _ hh (CN 2<|MM (ao 46 3 x_.bq aM k!)<|VV dx<|VV (aQ 3 false false .i64 ((i0:Nat):Int) ((x_.aF.length:Nat):Int))<|BB q2<|ZZ) k!) (bC.refl az) k!
 | c7+1,i0,fK,x,hh,az,aw,aM=>by
   have eD:=bL.small
   have vO:=jY.small
   have jh:=az _ _ aM
   have dx:bJ (some (.slice 50)) (some x_.bq)=some (Zn x_.aF.length):=(jY.has aw).len
   have q2:(decide (((i0:Nat):Int)<((x_.aF.length:Nat):Int)))=true:=d!
   obtain ⟨p4,q5,jW⟩:=(jY.has aw).elem (i:=i0) o!
   have kV:b_ env (some (.slice 50)) (some x_.bq) (some (Zn i0))=some (AV.ptr p4 q5):=jW
   have lX:bm env hh 3 (AV.ptr p4 (q5+0))=some (Zi (x_.aF.g i0).ai):=(jY.has aw).part (t:=3) (j:=0) o! jW k! rfl
   rcases Bool.eq_false_or_eq_true (decide ((x_.aF.g i0).ai=ai)) with f1 | f1
   · have ea:=of_decide_eq_true f1
     obtain ⟨p9,JM,xn⟩:=(jY.has aw).elem (i:=i0) o!
     have OF:b_ env (some (.slice 50)) (some x_.bq) (some (Zn i0))=some (AV.ptr p9 JM):=xn
     have uH:bm env hh 3 (AV.ptr p9 (JM+1))=some (Zi (x_.aF.g i0).aC):=(jY.has aw).part (t:=3) (j:=1) o! xn k! rfl
     exact aA.ret (x_.aF.g i0).aC (by simp only[gz,f1,aj,af]) (pk (d) _ _ hh _ hh (CN 2<|MM (ao 46 3 x_.bq aM k!)<|VV dx<|VV (aQ 3 false false .i64 ((i0:Nat):Int) ((x_.aF.length:Nat):Int))<|BC q2<|MM (ao 46 3 x_.bq aM k!)<|CC<|VV kV<|CC<|MM lX<|CC<|VV (f_ 3 false false .i64 (x_.aF.g i0).ai ai)<|BC f1<|MM (ao 46 3 x_.bq aM k!)<|CC<|VV OF<|CC<|MM uH<|CC<|ZZ) k!) (bC.refl az) k!
   · have ea:=of_decide_eq_false f1
     have u8:=ew 3 false true i0 1 o!
     exact aA.round (by simp only[gz,f1,aj,af]) (pk (d) _ _ hh _ hh (CN 2<|MM (ao 46 3 x_.bq aM k!)<|VV dx<|VV (aQ 3 false false .i64 ((i0:Nat):Int) ((x_.aF.length:Nat):Int))<|BC q2<|MM (ao 46 3 x_.bq aM k!)<|CC<|VV kV<|CC<|MM lX<|CC<|VV (f_ 3 false false .i64 (x_.aF.g i0).ai ai)<|BC f1<|VV u8<|CC<|ZZ) k!) (bC.refl az) _ k! (fun x=>tA ai x_ bh aO bL jY gS c7 (i0+1) o! x hh az aw aM)
def l5 (x_:Task) (ai:Int):Int:=(match (gz x_ ai x_.aF.length 0) with | none=>0 | some uK=>uK)
theorem R7 {d:Nat} {h:ak} (x_:Task) (ai:Int) (fP:aB.ok h x_) (bM:Tidy h):cA (d+1) (.fn 40) [(AV.agg [(AV.str x_.name),(Zi x_.aL),x_.aG,x_.bq]),(Zi ai)] h= .ret (Zi (l5 x_ ai)) h:=by
 have B_:=fP.2.2.small
 obtain ⟨h1,bD,cb,ib,aI,cf⟩:=ik bM (aK.cells [(AV.str x_.name),(Zi x_.aL),x_.aG,x_.bq] 48 false)
 have bx:Has h h1:=cf
 cases dk:gz x_ ai x_.aF.length 0 with
 | none=>
   obtain ⟨Eo,h3,cW,dE⟩:=aA.n dk (tA (d:=d) (h:=h) ai x_ h.nx fP.1 fP.2.1 fP.2.2 fP x_.aF.length 0 o! (fun k_=>(((AV.agg [(AV.str x_.name),(Zi x_.aL),x_.aG,x_.bq])::(Zi ai)::(Pt h.nx)::AV.undef::(Zi 0)::(Zi 0)::gB 21):List AV).getD k_ AV.undef) h1 cb bx aI)
   have j0:=dE.y
   have oU:h1.nx≤h3.nx:=dE.n
   have fB:Has h h3:=bx.trans dE.a
   have e:l5 x_ ai=0:=by simp only[l5,dk,aj,af]
   rw[e]
   exact ax rfl (aR Tryz.func40 IX rfl (.inr rfl) (pk (d) _ _ h _ h3 (NN bD (fun i=>(Pt i))<|CN 2<|LL cW<|CC<|ZZ) k!) k!) fB rfl
 | some uK=>
   obtain ⟨Eo,h3,cW,dE⟩:=aA.r dk (tA (d:=d) (h:=h) ai x_ h.nx fP.1 fP.2.1 fP.2.2 fP x_.aF.length 0 o! (fun k_=>(((AV.agg [(AV.str x_.name),(Zi x_.aL),x_.aG,x_.bq])::(Zi ai)::(Pt h.nx)::AV.undef::(Zi 0)::(Zi 0)::gB 21):List AV).getD k_ AV.undef) h1 cb bx aI)
   have j0:=dE.y
   have oU:h1.nx≤h3.nx:=dE.n
   have fB:Has h h3:=bx.trans dE.a
   have e:l5 x_ ai=uK:=by simp only[l5,dk,aj,af]
   rw[e]
   exact ax rfl (aR Tryz.func40 IX rfl (.inr rfl) (pk (d) _ _ h _ h3 (NN bD (fun i=>(Pt i))<|CN 2<|LL cW<|ZZ) k!) k!) fB rfl
end
end Go.Proofs.aE
