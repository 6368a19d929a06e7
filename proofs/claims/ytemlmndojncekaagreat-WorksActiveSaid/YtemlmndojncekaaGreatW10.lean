import Derived.Test.YtemlmndojncekaaGreatW0
import Derived.Test.YtemlmndojncekaaGreatW8
import Derived.Test.YtemlmndojncekaaGreatW2
import Derived.Test.YtemlmndojncekaaGreatW9
import Derived.Test.YtemlmndojncekaaGreatW4
import Derived.Test.YtemlmndojncekaaGreatW6
namespace Go.Proofs.aQ
open Go.Proofs Ab
noncomputable section
set_option maxRecDepth 100000
set_option maxHeartbeats 4000000
set_option linter.unusedVariables false
set_option linter.unusedSimpArgs false
theorem xI {p:Prop} (h:p:=by first | omega | exact ⟨Mk fG.1,Fm fG.2 (eb_ o!).2⟩):p:=h
theorem j2 {p:Prop} (h:p:=by first | omega | assumption):p:=h
def so:Code:=(Tryz.f53.body).getD .skip
theorem HD:Tryz.f53.body=some so:=by kernel_rfl
def Mo:Code:=(bw so).getD 0 .skip
def uP:Code:=(bw so).getD 1 .skip
def cQ (j:cx) (au:List Int) (tqk:Int):Nat→Nat→Int→Int
 | 0,_,l8=>l8
 | dq+1,i0,l8=>cQ j au tqk dq (i0+1) (imax l8 (cW j au ((j.ab.g tqk.toNat).aB.g i0)))
theorem zf {d:Nat} {h:aC} (tqk:Int) (j:cx) (pqN:Nat) (sqN:Nat) (az:List Bool) (au:List Int) (cA:Int) (bk:Nat) (cG:Nat) (gS:Nat) (jj:Nat) (bx:aW h j.aw j.ab) (cZ:aW h j.ao j.af) (fj:b8 h .i64 3 (j.ab.g tqk.toNat).aU (j.ab.g tqk.toNat).aB) (m5:((j.ab.g tqk.toNat).name).length<2^60) (z5:aW h (j.ab.g tqk.toNat).a_ (j.ab.g tqk.toNat).aA) (g5:aR.ok h j) (GW:aR.ok h (j.ab.g tqk.toNat)) (hF:0≤tqk) (je:tqk<(j.ab.length:Int)) (mI:az.length=j.ab.length) (nq:au.length=j.ab.length) (pF:((j.ab.g tqk.toNat).aA).length=0) (pY:∀i,i<j.ab.length→∀q,q<(j.ab.g i).aB.length→0≤(j.ab.g i).aB.g q∧(j.ab.g i).aB.g q<(j.ab.length:Int)) (z6:∀i,i<j.ab.length→0≤(j.ab.g i).takes∧(j.ab.g i).takes≤100000) (C6:∀i,i<au.length→0≤au.g i∧au.g i+(j.ab.g i).takes≤100000) (Ez:0≤cA) (IA:cA≤100000) (yZ:sqN=au.length):∀(k_ i_:Nat) (l8:Int) (_:i_+k_=((j.ab.g tqk.toNat).aB.length)) (_:(0≤l8∧l8≤100000)) (x:Nat→AV) (hh:aC) (aI:Tidy hh) (aE:Has h hh) (br:hh.get bk=some (aM.cells [j.aw,j.ao,(AV.slice gS 0 pqN pqN false),(AV.slice jj 0 sqN sqN false),AV.aG] 78 false)) (dK:hh.get cG=some (aM.cells [(AV.str (j.ab.g tqk.toNat).name),(Zi (j.ab.g tqk.toNat).takes),(j.ab.g tqk.toNat).aU,(j.ab.g tqk.toNat).a_] 40 false)) (kA:hh.get gS=some (aM.cells (bs az) 4 false)) (mh:hh.get jj=some (aM.cells (zs .i64 au) 3 false)),cE (cN (d+3)) Mo ⟨((x 0)::(Zi tqk)::(Zi l8)::(Pt bk)::rx x 4 3 ((Pt cG)::rx x 8 13 (((j.ab.g tqk.toNat).aU)::(Zn (j.ab.g tqk.toNat).aB.length)::(Zn i_)::rx x 24 49 []))),hh,[],.no⟩ (.exit 0) hh (fun r y=>((y 0)::(Zi tqk)::(Zi r)::(Pt bk)::rx y 4 3 ((Pt cG)::rx y 8 13 (((j.ab.g tqk.toNat).aU)::(Zn (j.ab.g tqk.toNat).aB.length)::rx y 23 50 [])))) (fun r=>(0≤r∧r≤100000)) (cQ j au tqk k_ i_ l8)
 | 0,i0,l8,fX,fG,x,hh,aI,aE,br,dK,kA,mh=>by
   have q1:(decide (((i0:Nat):Int)<(((j.ab.g tqk.toNat).aB.length:Nat):Int)))=false:=d!
   exact cE.out l8 rfl (pk (d+3) _ _ hh _ hh (VV (bL 3 false false .i64 ((i0:Nat):Int) (((j.ab.g tqk.toNat).aB.length:Nat):Int))<|BB q1<|ZZ) k!) (bE.refl aI) (show (0≤l8∧l8≤100000) from xI) k!
 | dq+1,i0,l8,fX,fG,x,hh,aI,aE,br,dK,kA,mh=>by
   have gT:=bx.small
   have nz:=cZ.small
   have uw:=fj.small
   have Rf:=z5.small
   have sU:=aI _ _ br
   have Lw:=aI _ _ dK
   have Zk:=aI _ _ kA
   have ac9:=aI _ _ mh
   have nb_:=fun hq=>pY tqk.toNat o! i0 hq
   have eb_:=fun hq=>R9 C6 z6 o! (nb_ hq).1 (nb_ hq).2
   have q1:(decide (((i0:Nat):Int)<(((j.ab.g tqk.toNat).aB.length:Nat):Int)))=true:=d!
   obtain ⟨p3,q4,cC,_⟩:=(fj.has aE).elem (i:=i0) o!
   have iW:bO env (some (.slice 3)) (some (j.ab.g tqk.toNat).aU) (some (Zn i0))=some (AV.ptr p3 q4):=cC
   have jY:bh env hh 3 (AV.ptr p3 q4)=some (Zi ((j.ab.g tqk.toNat).aB.g i0)):=(fj.has aE).load o! cC
   have k6:=qn (d:=d+2) j au ((j.ab.g tqk.toNat).aB.g i0) (aR.mono aE g5) (b8.own (op:=false) (n:=sqN) k! k! mh l! o!) j2 j2 j2 aI
   have u7:=fi 3 false true i0 1 o!
   exact cE.round (by simp only[cQ,aj,ai]) (pk (d+3) _ _ hh _ hh (VV (bL 3 false false .i64 ((i0:Nat):Int) (((j.ab.g tqk.toNat).aB.length:Nat):Int))<|BV q1 iW<|MM jY<|CN 3<|MM (aO 25 0 (AV.agg [j.aw,j.ao]) br k!)<|CC<|MM (aO 26 3 (AV.slice jj 0 sqN sqN false) br k!)<|CC<|EE k6<|CN 2<|VV u7<|CC<|ZZ) k!) (bE.refl aI) _ k! (fun x=>zf tqk j pqN sqN az au cA bk cG gS jj bx cZ fj m5 z5 g5 GW hF je mI nq pF pY z6 C6 Ez IA yZ dq (i0+1) (imax l8 (cW j au ((j.ab.g tqk.toNat).aB.g i0))) o! (show (0≤(imax l8 (cW j au ((j.ab.g tqk.toNat).aB.g i0)))∧(imax l8 (cW j au ((j.ab.g tqk.toNat).aB.g i0)))≤100000) from xI) x hh aI aE br dK kA mh)
def dN (j:cx) (az:List Bool) (au:List Int) (tqk:Int) (cA:Int):Bool×List Bool×List Int:=(bif (decide (100000<((cQ j au tqk (j.ab.g tqk.toNat).aB.length 0 cA)+((j.ab.g tqk.toNat).takes)))) then (false,az,au) else (true,(l9 j az au tqk (cQ j au tqk (j.ab.g tqk.toNat).aB.length 0 cA)).1,(l9 j az au tqk (cQ j au tqk (j.ab.g tqk.toNat).aB.length 0 cA)).2))
theorem Sa {d:Nat} {h hh:aC} {aZ pqN bf sqN:Nat} (j:cx) (az:List Bool) (au:List Int) (tqk:Int) (cA:Int) (bV:aR.ok h j) (b6:hh.get aZ=some (aM.cells (bs az) 4 false)) (s4:az.length=pqN) (wR:h.get aZ=none) (cj:hh.get bf=some (aM.cells (zs .i64 au) 3 false)) (wV:au.length=sqN) (wX:h.get bf=none) (l6:0≤tqk) (om:tqk<(j.ab.length:Int)) (yD:az.length=j.ab.length) (zR:au.length=j.ab.length) (Ex:((j.ab.g tqk.toNat).aA).length=0) (Ri:∀i,i<j.ab.length→∀q,q<(j.ab.g i).aB.length→0≤(j.ab.g i).aB.g q∧(j.ab.g i).aB.g q<(j.ab.length:Int)) (pre6:∀i,i<j.ab.length→0≤(j.ab.g i).takes∧(j.ab.g i).takes≤100000) (Rj:∀i,i<au.length→0≤au.g i∧au.g i+(j.ab.g i).takes≤100000) (Zt:0≤cA) (OI:cA≤100000) (Zu:bf≠aZ) (ch:Tidy h) (aI:Tidy hh) (aE:Has h hh) (gC:h.nx≤hh.nx):∃hk,cN (d+4) (.fn 53) [(AV.agg [j.aw,j.ao,(AV.slice aZ 0 pqN pqN false),(AV.slice bf 0 sqN sqN false),AV.aG]),(Zi tqk),(Zi cA)] hh= .ret (AV.bool (dN j az au tqk cA).1) hk∧Tidy hk∧hh.nx≤hk.nx∧Has h hk∧hk.get aZ=some (aM.cells (bs (dN j az au tqk cA).2.1) 4 false)∧((dN j az au tqk cA).2.1).length=pqN∧hk.get bf=some (aM.cells (zs .i64 (dN j az au tqk cA).2.2) 3 false)∧((dN j az au tqk cA).2.2).length=sqN:=by
 have kb:=bV.1.small
 have kf:=bV.2.small
 have wY:=aI _ _ b6
 have wZ:=aI _ _ cj
 obtain ⟨h1,di,cS,jU,bm,bP⟩:=jE aI (aM.cells [j.aw,j.ao,(AV.slice aZ 0 pqN pqN false),(AV.slice bf 0 sqN sqN false),AV.aG] 78 false)
 have bA:Has h h1:=aE.trans bP
 obtain ⟨p3,q4,cC⟩:=bV.1.elem (i:=tqk.toNat) o!
 have iW:bO env (some (.slice 40)) (some j.aw) (some (Zi tqk))=some (AV.ptr p3 q4):=by rw[show (tqk:Int)=((tqk.toNat:Nat):Int) by omega];exact cC
 have jY:bh env h1 40 (AV.ptr p3 q4)=some (AV.agg [(AV.str (j.ab.g tqk.toNat).name),(Zi (j.ab.g tqk.toNat).takes),(j.ab.g tqk.toNat).aU,(j.ab.g tqk.toNat).a_]):=(bV.1.has bA).load o! cC
 obtain ⟨h6,mK,ji,zU,mL,bU⟩:=jE cS (aM.cells [(AV.str []),(Zi 0),AV.aG,AV.aG] 40 false)
 have hZ:Has h h6:=bA.trans bU
 have Lx:AV.scalar (j.ab.g tqk.toNat).aU=true:=((bV.1.ok (i:=tqk.toNat) o!).2.1).scalar
 have Rl:AV.scalar (j.ab.g tqk.toNat).a_=true:=((bV.1.ok (i:=tqk.toNat) o!).2.2).scalar
 obtain ⟨h7,l7,eP,vH,fH,bp⟩:=n5 (t:=40) (n:=4) (i:=h1.nx) (L:=[(AV.str (j.ab.g tqk.toNat).name),(Zi (j.ab.g tqk.toNat).takes),(j.ab.g tqk.toNat).aU,(j.ab.g tqk.toNat).a_]) ji mL k! rfl rfl (by simp only[AV.cells,List.all_cons,List.all_nil,Bool.and_true,Bool.and_self,gr,eO,gu,gv,dG,jK,jL,jM,jN,jO,gz,Lx,Rl])
 have dm:Has h h7:=Has.dg hZ bp ch o!
 have tg:cb (some (.slice 3)) (some (j.ab.g tqk.toNat).aU)=some (Zn (j.ab.g tqk.toNat).aB.length):=((bV.1.ok (i:=tqk.toNat) o!).2.1).len
 obtain ⟨iK,kV,nM,ct,aaE⟩:=zf (d:=d) (h:=h) tqk j pqN sqN az au cA hh.nx h1.nx aZ bf bV.1 bV.2 (bV.1.ok (i:=tqk.toNat) o!).2.1 (bV.1.ok (i:=tqk.toNat) o!).1 (bV.1.ok (i:=tqk.toNat) o!).2.2 bV (bV.1.ok (i:=tqk.toNat) o!) o! o! o! o! (by assumption) (by assumption) (by assumption) (by assumption) o! o! o! (j.ab.g tqk.toNat).aB.length 0 cA o! (show (0≤cA∧cA≤100000) from xI) (fun k_=>(((AV.agg [j.aw,j.ao,(AV.slice aZ 0 pqN pqN false),(AV.slice bf 0 sqN sqN false),AV.aG])::(Zi tqk)::(Zi cA)::(Pt hh.nx)::AV.undef::AV.undef::(AV.bool false)::(Pt h1.nx)::AV.undef::AV.undef::AV.undef::AV.undef::AV.undef::AV.undef::(Pt hh.nx)::(Pt hh.nx)::j.aw::(Zi tqk)::(AV.ptr p3 q4)::(AV.agg [(AV.str (j.ab.g tqk.toNat).name),(Zi (j.ab.g tqk.toNat).takes),(j.ab.g tqk.toNat).aU,(j.ab.g tqk.toNat).a_])::(AV.ptr h1.nx 2)::((j.ab.g tqk.toNat).aU)::(Zn (j.ab.g tqk.toNat).aB.length)::(Zi 0)::jX 49):List AV).getD k_ AV.undef) h7 eP dm (bp _ _ o! (bU _ _ bm)) fH (bp _ _ o! (bU _ _ (bP _ _ b6))) (bp _ _ o! (bU _ _ (bP _ _ cj)))
 have jk:=ct.y
 have GX:h7.nx≤kV.nx:=ct.n
 have fJ:Has h kV:=dm.trans ct.a
 have GP:cb (some (.slice 83)) (some (j.ab.g tqk.toNat).a_)=some (Zn (j.ab.g tqk.toNat).aA.length):=((bV.1.ok (i:=tqk.toNat) o!).2.2).len
 have q14:(decide (0<(((j.ab.g tqk.toNat).aA.length:Nat):Int)))=false:=d!
 have anb:Ev env (cN (d+3)) uP ⟨((iK 0)::(Zi tqk)::(Zi (cQ j au tqk (j.ab.g tqk.toNat).aB.length 0 cA))::(Pt hh.nx)::rx iK 4 3 ((Pt h1.nx)::(iK 8)::(iK 9)::AV.aG::rx iK 11 10 (((j.ab.g tqk.toNat).aU)::(Zn (j.ab.g tqk.toNat).aB.length)::rx iK 23 13 ((AV.ptr h1.nx 3)::((j.ab.g tqk.toNat).a_)::(Zn (j.ab.g tqk.toNat).aA.length)::(Zi 0)::rx iK 40 33 [])))),kV,[],.no⟩ (.exit 2) ⟨((iK 0)::(Zi tqk)::(Zi (cQ j au tqk (j.ab.g tqk.toNat).aB.length 0 cA))::(Pt hh.nx)::rx iK 4 3 ((Pt h1.nx)::(iK 8)::(iK 9)::AV.aG::rx iK 11 10 (((j.ab.g tqk.toNat).aU)::(Zn (j.ab.g tqk.toNat).aB.length)::rx iK 23 13 ((AV.ptr h1.nx 3)::((j.ab.g tqk.toNat).a_)::(Zn (j.ab.g tqk.toNat).aA.length)::(Zi 0)::(AV.bool (decide (0<(((j.ab.g tqk.toNat).aA.length:Nat):Int))))::rx iK 41 32 [])))),kV,[],.no⟩:=Ev.to (pk (d+3) uP ((iK 0)::(Zi tqk)::(Zi (cQ j au tqk (j.ab.g tqk.toNat).aB.length 0 cA))::(Pt hh.nx)::rx iK 4 3 ((Pt h1.nx)::(iK 8)::(iK 9)::AV.aG::rx iK 11 10 (((j.ab.g tqk.toNat).aU)::(Zn (j.ab.g tqk.toNat).aB.length)::rx iK 23 13 ((AV.ptr h1.nx 3)::((j.ab.g tqk.toNat).a_)::(Zn (j.ab.g tqk.toNat).aA.length)::(Zi 0)::rx iK 40 33 [])))) kV (.exit 2) kV (VV (bL 3 false false .i64 0 (((j.ab.g tqk.toNat).aA.length:Nat):Int))<|BB q14<|ZZ) k!) k!
 have kt_:=pre6 tqk.toNat o!
 have k16:=Eg (d:=d+2) (h:=kV) (claimsV:=AV.aG) (cQ j au tqk (j.ab.g tqk.toNat).aB.length 0 cA) (j.ab.g tqk.toNat).takes [] (fun _ _=>0) (aW.nil) (fun i hi=>absurd hi (Nat.not_lt_zero _)) (fun i hi=>absurd hi (Nat.not_lt_zero _)) o! o! jk
 rw[ae9,List.length_nil,Uu] at k16
 have w17:IntKind.i64.wrap ((cQ j au tqk (j.ab.g tqk.toNat).aB.length 0 cA)+((j.ab.g tqk.toNat).takes))=(cQ j au tqk (j.ab.g tqk.toNat).aB.length 0 cA)+((j.ab.g tqk.toNat).takes):=wrap_i64 o! o!
 have dJ:=fun {al ps} (k:Pk al _ ps)=>(NN di (fun i=>(Pt i))<|CN 3<|MM (aO 22 0 j.aw bm k!)<|CC<|VV iW<|MM jY<|NN mK (fun i=>(Pt i))<|SS l7<|CC<|MM (aO 26 2 (j.ab.g tqk.toNat).aU fH k!)<|VV tg<|CC<|LL nM<|CN 2<|MM (aO 38 3 (j.ab.g tqk.toNat).a_ (ct.a _ _ fH) k!)<|VV GP<|CC<|LL (show Ev env (cN (d+3)) (.loop uP) ⟨((iK 0)::(Zi tqk)::(Zi (cQ j au tqk (j.ab.g tqk.toNat).aB.length 0 cA))::(Pt hh.nx)::rx iK 4 3 ((Pt h1.nx)::(iK 8)::(iK 9)::AV.aG::rx iK 11 10 (((j.ab.g tqk.toNat).aU)::(Zn (j.ab.g tqk.toNat).aB.length)::rx iK 23 13 ((AV.ptr h1.nx 3)::((j.ab.g tqk.toNat).a_)::(Zn (j.ab.g tqk.toNat).aA.length)::(Zi 0)::rx iK 40 33 [])))),kV,[],.no⟩ (.exit 2) ⟨((iK 0)::(Zi tqk)::(Zi (cQ j au tqk (j.ab.g tqk.toNat).aB.length 0 cA))::(Pt hh.nx)::rx iK 4 3 ((Pt h1.nx)::(iK 8)::(iK 9)::AV.aG::rx iK 11 10 (((j.ab.g tqk.toNat).aU)::(Zn (j.ab.g tqk.toNat).aB.length)::rx iK 23 13 ((AV.ptr h1.nx 3)::((j.ab.g tqk.toNat).a_)::(Zn (j.ab.g tqk.toNat).aA.length)::(Zi 0)::(AV.bool (decide (0<(((j.ab.g tqk.toNat).aA.length:Nat):Int))))::rx iK 41 32 [])))),kV,[],.no⟩ from (Ev.out anb))<|CN 2<|MM (aO 3 1 (Zi (j.ab.g tqk.toNat).takes) (ct.a _ _ fH) k!)<|CC<|EE k16<|CN 3<|MM (aO 3 1 (Zi (j.ab.g tqk.toNat).takes) (ct.a _ _ fH) k!)<|VV (qG 3 false false w17)<|VV (dw 3 false true .i64 ((cQ j au tqk (j.ab.g tqk.toNat).aB.length 0 cA)+((j.ab.g tqk.toNat).takes)) 100000)<|k:Pk _ [] ps)
 rcases Bool.eq_false_or_eq_true (decide (100000<((cQ j au tqk (j.ab.g tqk.toNat).aB.length 0 cA)+((j.ab.g tqk.toNat).takes)))) with f1 | f1
 · have fP:=of_decide_eq_true f1
   have e:dN j az au tqk cA=(false,az,au):=by simp only[dN,f1,aj,ai]
   rw[e]
   exact gB rfl (bb Tryz.func53 HD rfl (.inr rfl) (pk (d+3) _ _ hh _ kV (dJ<|BC f1<|ZZ) k!) k!) aI jk o! ⟨fJ,(ct.a _ _ (bp _ _ o! (bU _ _ (bP _ _ b6)))),l!,(ct.a _ _ (bp _ _ o! (bU _ _ (bP _ _ cj)))),l!⟩ (fun q=>⟨aE,dc q b6 (ct.a _ _ (bp _ _ o! (bU _ _ (bP _ _ b6)))),l!,dc q cj (ct.a _ _ (bp _ _ o! (bU _ _ (bP _ _ cj)))),l!⟩)
 · have fP:=of_decide_eq_false f1
   obtain ⟨Dm,Ar,Mp,uQ,uR,jr⟩:=dz jk (ct.a _ _ (bp _ _ o! (bU _ _ (bP _ _ b6))))
   have sq:Has h Dm:=bG fJ (by first | assumption | exact ij ch o!) jr
   obtain ⟨Pv,Sb,adV,Mq,Mr,uS⟩:=dz Ar ((jr _ o!).trans (ct.a _ _ (bp _ _ o! (bU _ _ (bP _ _ cj)))))
   have Dn:Pv.get aZ=none:=(uS _ o!).trans uQ
   have Dp:Has h Pv:=bG sq (by first | assumption | exact ij ch o!) uS
   obtain ⟨JP,aaI,D7,aeP,Ms,Mt,adW,Fo,adX⟩:=Pu (d:=d) (h:=Pv) (pqN:=pqN) (sqN:=sqN) j az au tqk (cQ j au tqk (j.ab.g tqk.toNat).aB.length 0 cA) (aR.mono Dp bV) (ct.a _ _ (bp _ _ o! (bU _ _ (bP _ _ b6)))) l! Dn (ct.a _ _ (bp _ _ o! (bU _ _ (bP _ _ cj)))) l! Mq j2 j2 j2 j2 j2 o! Sb jk (Mr.trans uR) o!
   have vk:Has h JP:=(Dp.trans Ms)
   have e:dN j az au tqk cA=(true,(l9 j az au tqk (cQ j au tqk (j.ab.g tqk.toNat).aB.length 0 cA)).1,(l9 j az au tqk (cQ j au tqk (j.ab.g tqk.toNat).aB.length 0 cA)).2):=by simp only[dN,f1,aj,ai]
   rw[e]
   exact gB rfl (bb Tryz.func53 HD rfl (.inr rfl) (pk (d+3) _ _ hh _ JP (dJ<|BM f1 (aO 78 0 (AV.agg [j.aw,j.ao,(AV.slice aZ 0 pqN pqN false),(AV.slice bf 0 sqN sqN false),AV.aG]) (ct.a _ _ (bp _ _ o! (bU _ _ bm))) k!)<|CN 2<|EE aaI<|CC<|ZZ) k!) k!) aI D7 o! ⟨vk,Mt,l!,Fo,l!⟩ (fun q=>⟨aE,dc q b6 Mt,l!,dc q cj Fo,l!⟩)
theorem b5.u0 {j:cx} (F:b5 j) (h:j.af.length=0) {i:Nat} (hi:i<j.ab.length):(j.ab.g i).aA.length=0:=by
 rcases Nat.eq_zero_or_pos (j.ab.g i).aA.length with e | e
 · exact e
 · have:=F.ur i hi 0 e;omega
theorem Ka {j:cx} {au:List Int} {tqk:Int}:∀k i v,cQ j au tqk k i v=bH j au tqk k i v
 | 0,i,v=>rfl
 | k+1,i,v=>by rw[cQ,bH,Ka]
theorem Kb (j:cx) (az:List Bool) (au:List Int) (tqk cA:Int) (u0:(j.ab.g (Int.toNat tqk)).aA.length=0):dN j az au tqk cA=((b9 j az au [] tqk cA).1,(b9 j az au [] tqk cA).2.1,(b9 j az au [] tqk cA).2.2.1):=by
 have n0:nL j tqk=0:=by
  unfold nL
  rw[u0]
  cases decide (0<(j.ab.g (Int.toNat tqk)).takes)<;>rfl
 rw[dN,b9,n0,Uu,Ka]
 cases decide (100000<bH j au tqk (j.ab.g (Int.toNat tqk)).aB.length 0 cA+(j.ab.g (Int.toNat tqk)).takes) with
 | true=>rfl
 | false=>
   rw[ai,ai,z9]
   rfl
theorem Px (j:cx) (az:List Bool) (au:List Int) (tqk cA:Int) (F:b5 j) (t0:0≤tqk) (t1:tqk<(j.ab.length:Int)) (hl:au.length=j.ab.length) (hr:j.af.length=0) (f0:0≤cA) (f1:cA≤100000) (sb:∀i,i<au.length→0≤au.g i∧au.g i+(j.ab.g i).takes≤100000):
 ∀i,i<au.length→0≤(dN j az au tqk cA).2.2.g i∧(dN j az au tqk cA).2.2.g i+(j.ab.g i).takes≤100000:=by
 rw[Kb j az au tqk cA (F.u0 hr o!)]
 exact (HA j az au [] tqk cA F t0 t1 hl (by rw[hr];rfl) f0 f1 sb).1
theorem aaJ {j:cx} {st S1:List Int} (p:∀i,i<st.length→0≤S1.g i∧S1.g i+(j.ab.g i).takes≤100000) (hl:S1.length=st.length):∀ii,ii<S1.length→0≤S1.g ii∧S1.g ii+(j.ab.g ii).takes≤100000:=fun ii hi=>p ii o!
def Ei:Code:=(Tryz.f54.body).getD .skip
theorem th:Tryz.f54.body=some Ei:=by kernel_rfl
def Sc:Code:=(bw Ei).getD 0 .skip
def dH (s:List UInt8):Nat→Nat→Option (Bool)
 | 0,_=>none
 | dq+1,i0=>(bif (decide ((((s.g i0).toNat:Nat):Int)<97)) then (bif (decide ((((s.g i0).toNat:Nat):Int)<48)) then (bif (!decide ((((s.g i0).toNat:Nat):Int)=45)) then some false else dH s dq (i0+1)) else (bif (decide (57<(((s.g i0).toNat:Nat):Int))) then (bif (!decide ((((s.g i0).toNat:Nat):Int)=45)) then some false else dH s dq (i0+1)) else dH s dq (i0+1))) else (bif (decide (122<(((s.g i0).toNat:Nat):Int))) then (bif (decide ((((s.g i0).toNat:Nat):Int)<48)) then (bif (!decide ((((s.g i0).toNat:Nat):Int)=45)) then some false else dH s dq (i0+1)) else (bif (decide (57<(((s.g i0).toNat:Nat):Int))) then (bif (!decide ((((s.g i0).toNat:Nat):Int)=45)) then some false else dH s dq (i0+1)) else dH s dq (i0+1))) else dH s dq (i0+1)))
theorem j3 {d:Nat} {h:aC} (s:List UInt8) (bx:s.length<2^60):∀(k_ i_:Nat) (_:i_+k_=(List.length s)) (x:Nat→AV) (hh:aC) (aI:Tidy hh) (aE:Has h hh),aF (cN (d)) Sc ⟨((AV.str s)::(x 1)::(x 2)::(Zn i_)::rx x 4 46 []),hh,[],.no⟩ (.exit 0) hh (fun y=>((AV.str s)::rx y 1 49 [])) (fun r y=>((AV.str s)::(y 1)::(AV.bool r)::rx y 3 47 [])) (dH s k_ i_)
 | 0,i0,fX,x,hh,aI,aE=>by
   have q2:(decide (((i0:Nat):Int)<((List.length s:Nat):Int)))=false:=d!
   exact aF.out rfl (pk (d) _ _ hh _ hh (CN 3<|VV (bL 3 false false .i64 ((i0:Nat):Int) ((List.length s:Nat):Int))<|BB q2<|ZZ) k!) (bE.refl aI) k!
 | dq+1,i0,fX,x,hh,aI,aE=>by
   have q2:(decide (((i0:Nat):Int)<((List.length s:Nat):Int)))=true:=d!
   have wJ:zK env (some .string) (some (AV.str s)) (some (Zn i0))=some (AV.int .u8 (((s.g i0).toNat:Nat):Int)):=pW (j:=i0) o!
   have dJ:=fun {al ps} (k:Pk al _ ps)=>(CN 3<|VV (bL 3 false false .i64 ((i0:Nat):Int) ((List.length s:Nat):Int))<|BB q2<|CN 2<|VV wJ<|CN 2<|k:Pk _ [] ps)
   rcases Bool.eq_false_or_eq_true (decide ((((s.g i0).toNat:Nat):Int)<97)) with f1 | f1
   · rcases Bool.eq_false_or_eq_true (decide ((((s.g i0).toNat:Nat):Int)<48)) with f2 | f2
     · have hX:=fun {al ps} (k:Pk al _ ps)=>(dJ<|VV (bL 5 false true .u8 (((s.g i0).toNat:Nat):Int) 97)<|CC<|BB f1<|BV f1 (yA true f1)<|CC<|TT<|CC<|TT<|VV (bL 5 false true .u8 (((s.g i0).toNat:Nat):Int) 48)<|TT<|CC<|BB f2<|BB f2<|TT<|VV (yA true f2)<|CN 2<|TT<|CC<|TT<|VV (kS 5 false true .u8 (((s.g i0).toNat:Nat):Int) 45)<|CC<|k:Pk _ [] ps)
       rcases Bool.eq_false_or_eq_true (!decide ((((s.g i0).toNat:Nat):Int)=45)) with f3 | f3
       · exact aF.ret false (by simp only[dH,f1,f2,f3,aj,ai]) (pk (d) _ _ hh _ hh (hX<|BC f3<|ZZ) k!) (bE.refl aI) k!
       · have u7:=fi 3 false true i0 1 o!
         exact aF.round (by simp only[dH,f1,f2,f3,aj,ai]) (pk (d) _ _ hh _ hh (hX<|BC f3<|VV u7<|CC<|ZZ) k!) (bE.refl aI) _ k! (fun x=>j3 s bx dq (i0+1) o! x hh aI aE)
     · rcases Bool.eq_false_or_eq_true (decide (57<(((s.g i0).toNat:Nat):Int))) with f3 | f3
       · rcases Bool.eq_false_or_eq_true (!decide ((((s.g i0).toNat:Nat):Int)=45)) with f4 | f4
         · exact aF.ret false (by simp only[dH,f1,f2,f3,f4,aj,ai]) (pk (d) _ _ hh _ hh (dJ<|VV (bL 5 false true .u8 (((s.g i0).toNat:Nat):Int) 97)<|CC<|BB f1<|BV f1 (yA true f1)<|CC<|TT<|CC<|TT<|VV (bL 5 false true .u8 (((s.g i0).toNat:Nat):Int) 48)<|TT<|CC<|BC f2<|BV f2 (dw 5 false true .u8 (((s.g i0).toNat:Nat):Int) 57)<|TT<|VV (cf (a:=some (AV.bool true)) (b:=some (AV.bool (decide (57<(((s.g i0).toNat:Nat):Int))))) f2)<|CN 2<|BC f3<|BV f3 (kS 5 false true .u8 (((s.g i0).toNat:Nat):Int) 45)<|VV (sP (!decide ((((s.g i0).toNat:Nat):Int)=45)) false f3)<|BC f4<|ZZ) k!) (bE.refl aI) k!
         · have u8:=fi 3 false true i0 1 o!
           exact aF.round (by simp only[dH,f1,f2,f3,f4,aj,ai]) (pk (d) _ _ hh _ hh (dJ<|VV (bL 5 false true .u8 (((s.g i0).toNat:Nat):Int) 97)<|CC<|BB f1<|BV f1 (yA true f1)<|CC<|TT<|CC<|TT<|VV (bL 5 false true .u8 (((s.g i0).toNat:Nat):Int) 48)<|TT<|CC<|BC f2<|BV f2 (dw 5 false true .u8 (((s.g i0).toNat:Nat):Int) 57)<|TT<|VV (cf (a:=some (AV.bool true)) (b:=some (AV.bool (decide (57<(((s.g i0).toNat:Nat):Int))))) f2)<|CN 2<|BC f3<|BV f3 (kS 5 false true .u8 (((s.g i0).toNat:Nat):Int) 45)<|VV (sP (!decide ((((s.g i0).toNat:Nat):Int)=45)) false f3)<|BC f4<|VV u8<|CC<|ZZ) k!) (bE.refl aI) _ k! (fun x=>j3 s bx dq (i0+1) o! x hh aI aE)
       · have u7:=fi 3 false true i0 1 o!
         exact aF.round (by simp only[dH,f1,f2,f3,aj,ai]) (pk (d) _ _ hh _ hh (dJ<|VV (bL 5 false true .u8 (((s.g i0).toNat:Nat):Int) 97)<|CC<|BB f1<|BV f1 (yA true f1)<|CC<|TT<|CC<|TT<|VV (bL 5 false true .u8 (((s.g i0).toNat:Nat):Int) 48)<|TT<|CC<|BC f2<|BV f2 (dw 5 false true .u8 (((s.g i0).toNat:Nat):Int) 57)<|TT<|VV (cf (a:=some (AV.bool true)) (b:=some (AV.bool (decide (57<(((s.g i0).toNat:Nat):Int))))) f2)<|CN 2<|BB f3<|BV f3 (yB false f3)<|FF<|CC<|VV u7<|CC<|ZZ) k!) (bE.refl aI) _ k! (fun x=>j3 s bx dq (i0+1) o! x hh aI aE)
   · rcases Bool.eq_false_or_eq_true (decide (122<(((s.g i0).toNat:Nat):Int))) with f2 | f2
     · rcases Bool.eq_false_or_eq_true (decide ((((s.g i0).toNat:Nat):Int)<48)) with f3 | f3
       · rcases Bool.eq_false_or_eq_true (!decide ((((s.g i0).toNat:Nat):Int)=45)) with f4 | f4
         · exact aF.ret false (by simp only[dH,f1,f2,f3,f4,aj,ai]) (pk (d) _ _ hh _ hh (dJ<|VV (bL 5 false true .u8 (((s.g i0).toNat:Nat):Int) 97)<|CC<|BC f1<|BV f1 (dw 5 false true .u8 (((s.g i0).toNat:Nat):Int) 122)<|VV (cf (a:=some (AV.bool true)) (b:=some (AV.bool (decide (122<(((s.g i0).toNat:Nat):Int))))) f1)<|CC<|BC f2<|BV f2 (bL 5 false true .u8 (((s.g i0).toNat:Nat):Int) 48)<|BC f2<|BB f3<|BB f3<|BV f2 (yA true f3)<|VV (sP true false f2)<|CC<|TT<|CC<|TT<|VV (kS 5 false true .u8 (((s.g i0).toNat:Nat):Int) 45)<|CC<|BC f4<|ZZ) k!) (bE.refl aI) k!
         · have u8:=fi 3 false true i0 1 o!
           exact aF.round (by simp only[dH,f1,f2,f3,f4,aj,ai]) (pk (d) _ _ hh _ hh (dJ<|VV (bL 5 false true .u8 (((s.g i0).toNat:Nat):Int) 97)<|CC<|BC f1<|BV f1 (dw 5 false true .u8 (((s.g i0).toNat:Nat):Int) 122)<|VV (cf (a:=some (AV.bool true)) (b:=some (AV.bool (decide (122<(((s.g i0).toNat:Nat):Int))))) f1)<|CC<|BC f2<|BV f2 (bL 5 false true .u8 (((s.g i0).toNat:Nat):Int) 48)<|BC f2<|BB f3<|BB f3<|BV f2 (yA true f3)<|VV (sP true false f2)<|CC<|TT<|CC<|TT<|VV (kS 5 false true .u8 (((s.g i0).toNat:Nat):Int) 45)<|CC<|BC f4<|VV u8<|CC<|ZZ) k!) (bE.refl aI) _ k! (fun x=>j3 s bx dq (i0+1) o! x hh aI aE)
       · rcases Bool.eq_false_or_eq_true (decide (57<(((s.g i0).toNat:Nat):Int))) with f4 | f4
         · have ow:=fun {al ps} (k:Pk al _ ps)=>(dJ<|VV (bL 5 false true .u8 (((s.g i0).toNat:Nat):Int) 97)<|CC<|BC f1<|BV f1 (dw 5 false true .u8 (((s.g i0).toNat:Nat):Int) 122)<|VV (cf (a:=some (AV.bool true)) (b:=some (AV.bool (decide (122<(((s.g i0).toNat:Nat):Int))))) f1)<|CC<|BC f2<|BV f2 (bL 5 false true .u8 (((s.g i0).toNat:Nat):Int) 48)<|BC f2<|BC f3<|BV f3 (dw 5 false true .u8 (((s.g i0).toNat:Nat):Int) 57)<|BV f2 (cf (a:=some (AV.bool true)) (b:=some (AV.bool (decide (57<(((s.g i0).toNat:Nat):Int))))) f3)<|VV (sP (decide (57<(((s.g i0).toNat:Nat):Int))) false f2)<|CC<|BC f4<|BV f4 (kS 5 false true .u8 (((s.g i0).toNat:Nat):Int) 45)<|VV (sP (!decide ((((s.g i0).toNat:Nat):Int)=45)) false f4)<|k:Pk _ [] ps)
           rcases Bool.eq_false_or_eq_true (!decide ((((s.g i0).toNat:Nat):Int)=45)) with f5 | f5
           · exact aF.ret false (by simp only[dH,f1,f2,f3,f4,f5,aj,ai]) (pk (d) _ _ hh _ hh (ow<|BC f5<|ZZ) k!) (bE.refl aI) k!
           · have u9:=fi 3 false true i0 1 o!
             exact aF.round (by simp only[dH,f1,f2,f3,f4,f5,aj,ai]) (pk (d) _ _ hh _ hh (ow<|BC f5<|VV u9<|CC<|ZZ) k!) (bE.refl aI) _ k! (fun x=>j3 s bx dq (i0+1) o! x hh aI aE)
         · have u8:=fi 3 false true i0 1 o!
           exact aF.round (by simp only[dH,f1,f2,f3,f4,aj,ai]) (pk (d) _ _ hh _ hh (dJ<|VV (bL 5 false true .u8 (((s.g i0).toNat:Nat):Int) 97)<|CC<|BC f1<|BV f1 (dw 5 false true .u8 (((s.g i0).toNat:Nat):Int) 122)<|VV (cf (a:=some (AV.bool true)) (b:=some (AV.bool (decide (122<(((s.g i0).toNat:Nat):Int))))) f1)<|CC<|BC f2<|BV f2 (bL 5 false true .u8 (((s.g i0).toNat:Nat):Int) 48)<|BC f2<|BC f3<|BV f3 (dw 5 false true .u8 (((s.g i0).toNat:Nat):Int) 57)<|BV f2 (cf (a:=some (AV.bool true)) (b:=some (AV.bool (decide (57<(((s.g i0).toNat:Nat):Int))))) f3)<|VV (sP (decide (57<(((s.g i0).toNat:Nat):Int))) false f2)<|CC<|BB f4<|BV f4 (yB false f4)<|FF<|CC<|VV u8<|CC<|ZZ) k!) (bE.refl aI) _ k! (fun x=>j3 s bx dq (i0+1) o! x hh aI aE)
     · have u6:=fi 3 false true i0 1 o!
       exact aF.round (by simp only[dH,f1,f2,aj,ai]) (pk (d) _ _ hh _ hh (dJ<|VV (bL 5 false true .u8 (((s.g i0).toNat:Nat):Int) 97)<|CC<|BC f1<|BV f1 (dw 5 false true .u8 (((s.g i0).toNat:Nat):Int) 122)<|VV (cf (a:=some (AV.bool true)) (b:=some (AV.bool (decide (122<(((s.g i0).toNat:Nat):Int))))) f1)<|CC<|BB f2<|BB f2<|BB f2<|BV f2 (yB false f2)<|CC<|FF<|FF<|CC<|FF<|CC<|VV u6<|CC<|ZZ) k!) (bE.refl aI) _ k! (fun x=>j3 s bx dq (i0+1) o! x hh aI aE)
def fI (s:List UInt8):Bool:=(bif (decide (((List.length s:Nat):Int)=0)) then false else (bif (decide (16<((List.length s:Nat):Int))) then false else (bif (decide ((((s.g 0).toNat:Nat):Int)<97)) then false else (bif (decide (122<(((s.g 0).toNat:Nat):Int))) then false else (match (dH s (List.length s) 0) with | none=>true | some rr8=>rr8)))))
theorem Py {d:Nat} {h:aC} (s:List UInt8) (AK:s.length<2^60) (ch:Tidy h):cN (d+1) (.fn 54) [(AV.str s)] h= .ret (AV.bool (fI s)) h:=by
 have sn1:s.length<2^60:=AK
 have y9:=fun {al ps} (k:Pk al _ ps)=>(CN 3<|VV (vE 3 false true .i64 ((List.length s:Nat):Int) 0)<|CC<|k:Pk _ [] ps)
 rcases Bool.eq_false_or_eq_true (decide (((List.length s:Nat):Int)=0)) with f0 | f0
 · have jf:=of_decide_eq_true f0
   have e:fI s=false:=by simp only[fI,f0,aj,ai]
   rw[e]
   exact aH rfl (bb Tryz.func54 th rfl (.inr rfl) (pk (d) _ _ h _ h (y9<|BB f0<|BB f0<|BV f0 (yA true f0)<|CC<|TT<|TT<|TT<|CN 2<|TT<|TT<|TT<|CC<|TT<|CC<|ZZ) k!) k!) (Has.refl _) rfl
 · have jf:=of_decide_eq_false f0
   have AL:=fun {al ps} (k:Pk al _ ps)=>(y9<|BC f0<|BC f0<|BV f0 (dw 3 false true .i64 ((List.length s:Nat):Int) 16)<|k:Pk _ [] ps)
   rcases Bool.eq_false_or_eq_true (decide (16<((List.length s:Nat):Int))) with f1 | f1
   · have fP:=of_decide_eq_true f1
     have e:fI s=false:=by simp only[fI,f0,f1,aj,ai]
     rw[e]
     exact aH rfl (bb Tryz.func54 th rfl (.inr rfl) (pk (d) _ _ h _ h (AL<|VV (cf (a:=some (AV.bool true)) (b:=some (AV.bool (decide (16<((List.length s:Nat):Int))))) f0)<|CC<|BB f1<|BB f1<|BV f1 (yA true f1)<|CC<|TT<|TT<|TT<|CC<|TT<|CC<|ZZ) k!) k!) (Has.refl _) rfl
   · have fP:=of_decide_eq_false f1
     have WZ:zK env (some .string) (some (AV.str s)) (some (Zi 0))=some (AV.int .u8 (((s.g 0).toNat:Nat):Int)):=pW (j:=0) o!
     rcases Bool.eq_false_or_eq_true (decide ((((s.g 0).toNat:Nat):Int)<97)) with f2 | f2
     · have se:=of_decide_eq_true f2
       have e:fI s=false:=by simp only[fI,f0,f1,f2,aj,ai]
       rw[e]
       exact aH rfl (bb Tryz.func54 th rfl (.inr rfl) (pk (d) _ _ h _ h (AL<|VV (cf (a:=some (AV.bool true)) (b:=some (AV.bool (decide (16<((List.length s:Nat):Int))))) f0)<|CC<|BC f1<|BV f1 WZ<|BV f1 (bL 5 false true .u8 (((s.g 0).toNat:Nat):Int) 97)<|VV (cf (a:=some (AV.bool true)) (b:=some (AV.bool (decide ((((s.g 0).toNat:Nat):Int)<97)))) f1)<|CC<|BB f2<|BB f2<|BV f2 (yA true f2)<|TT<|CC<|ZZ) k!) k!) (Has.refl _) rfl
     · have se:=of_decide_eq_false f2
       have Lr:zK env (some .string) (some (AV.str s)) (some (Zi 0))=some (AV.int .u8 (((s.g 0).toNat:Nat):Int)):=pW (j:=0) o!
       rcases Bool.eq_false_or_eq_true (decide (122<(((s.g 0).toNat:Nat):Int))) with f3 | f3
       · have e:fI s=false:=by simp only[fI,f0,f1,f2,f3,aj,ai]
         rw[e]
         exact aH rfl (bb Tryz.func54 th rfl (.inr rfl) (pk (d) _ _ h _ h (AL<|VV (cf (a:=some (AV.bool true)) (b:=some (AV.bool (decide (16<((List.length s:Nat):Int))))) f0)<|CC<|BC f1<|BV f1 WZ<|BV f1 (bL 5 false true .u8 (((s.g 0).toNat:Nat):Int) 97)<|VV (cf (a:=some (AV.bool true)) (b:=some (AV.bool (decide ((((s.g 0).toNat:Nat):Int)<97)))) f1)<|CC<|BC f2<|BV f2 Lr<|BV f2 (dw 5 false true .u8 (((s.g 0).toNat:Nat):Int) 122)<|VV (cf (a:=some (AV.bool true)) (b:=some (AV.bool (decide (122<(((s.g 0).toNat:Nat):Int))))) f2)<|BC f3<|ZZ) k!) k!) (Has.refl _) rfl
       · have lp6:=j3 (d:=d) (h:=h) s AK (List.length s) 0 o! (fun k_=>(((AV.str s)::AV.undef::(AV.bool false)::(Zi 0)::AV.undef::(AV.str s)::(Zn (List.length s))::(AV.bool (decide (((List.length s:Nat):Int)=0)))::(AV.bool (decide (((List.length s:Nat):Int)=0)))::(AV.str s)::(Zn (List.length s))::(AV.bool (decide (16<((List.length s:Nat):Int))))::(AV.bool (decide (16<((List.length s:Nat):Int))))::(AV.bool (decide (16<((List.length s:Nat):Int))))::(AV.str s)::(AV.int .u8 (((s.g 0).toNat:Nat):Int))::(AV.bool (decide ((((s.g 0).toNat:Nat):Int)<97)))::(AV.bool (decide ((((s.g 0).toNat:Nat):Int)<97)))::(AV.bool (decide ((((s.g 0).toNat:Nat):Int)<97)))::(AV.str s)::(AV.int .u8 (((s.g 0).toNat:Nat):Int))::(AV.bool (decide (122<(((s.g 0).toNat:Nat):Int))))::(AV.bool (decide (122<(((s.g 0).toNat:Nat):Int))))::jX 27):List AV).getD k_ AV.undef) h ch (Has.refl _)
         cases mO:dH s (List.length s) 0 with
         | none=>
           obtain ⟨yl8,h9,ot,ti⟩:=aF.n mO lp6
           have mJ:Has h h9:=ti.a
           have e:fI s=true:=by simp only[fI,f0,f1,f2,f3,mO,aj,ai]
           rw[e]
           exact aH rfl (bb Tryz.func54 th rfl (.inr rfl) (pk (d) _ _ h _ h9 (AL<|VV (cf (a:=some (AV.bool true)) (b:=some (AV.bool (decide (16<((List.length s:Nat):Int))))) f0)<|CC<|BC f1<|BV f1 WZ<|BV f1 (bL 5 false true .u8 (((s.g 0).toNat:Nat):Int) 97)<|VV (cf (a:=some (AV.bool true)) (b:=some (AV.bool (decide ((((s.g 0).toNat:Nat):Int)<97)))) f1)<|CC<|BC f2<|BV f2 Lr<|BV f2 (dw 5 false true .u8 (((s.g 0).toNat:Nat):Int) 122)<|VV (cf (a:=some (AV.bool true)) (b:=some (AV.bool (decide (122<(((s.g 0).toNat:Nat):Int))))) f2)<|BC f3<|LL ot<|CC<|ZZ) k!) k!) mJ rfl
         | some rr8=>
           obtain ⟨yl8,h9,ot,ti⟩:=aF.r mO lp6
           have mJ:Has h h9:=ti.a
           have e:fI s=rr8:=by simp only[fI,f0,f1,f2,f3,mO,aj,ai]
           rw[e]
           exact aH rfl (bb Tryz.func54 th rfl (.inr rfl) (pk (d) _ _ h _ h9 (AL<|VV (cf (a:=some (AV.bool true)) (b:=some (AV.bool (decide (16<((List.length s:Nat):Int))))) f0)<|CC<|BC f1<|BV f1 WZ<|BV f1 (bL 5 false true .u8 (((s.g 0).toNat:Nat):Int) 97)<|VV (cf (a:=some (AV.bool true)) (b:=some (AV.bool (decide ((((s.g 0).toNat:Nat):Int)<97)))) f1)<|CC<|BC f2<|BV f2 Lr<|BV f2 (dw 5 false true .u8 (((s.g 0).toNat:Nat):Int) 122)<|VV (cf (a:=some (AV.bool true)) (b:=some (AV.bool (decide (122<(((s.g 0).toNat:Nat):Int))))) f2)<|BC f3<|LL ot<|ZZ) k!) k!) mJ rfl
def As (c:UInt8):Bool:=decide (97≤((c.toNat:Nat):Int))&&decide (((c.toNat:Nat):Int)≤122)
def digit (c:UInt8):Bool:=decide (48≤((c.toNat:Nat):Int))&&decide (((c.toNat:Nat):Int)≤57)
def dash (c:UInt8):Bool:=decide (((c.toNat:Nat):Int)=45)
def B6 (f:Nat→Bool):Nat→Nat→Bool
 | 0,_=>true
 | k+1,i=>f i&&B6 f k (i+1)
theorem all_congr {f g:Nat→Bool}:∀(k i:Nat),(∀j,i≤j→j<i+k→f j=g j)→B6 f k i=B6 g k i
 | 0,_,_=>rfl
 | k+1,i,h=>by
   rw[B6,B6,h i (Nat.le_refl _) o!,all_congr k (i+1) fun j h1 h2=>h j o! o!]
theorem aaK (a b:Int):decide (a<b)= !decide (b≤a):=by
 by_cases h:a<b
 · rw[decide_eq_true h,decide_eq_false o!];rfl
 · rw[decide_eq_false h,decide_eq_true o!];rfl
theorem Kc (s:List UInt8):∀(k i:Nat),j1 s k i=bif B6 (fun j=>As (s.g j)||(!decide ((j:Int)=0)&&(digit (s.g j)||dash (s.g j)))) k i then none else some false
 | 0,_=>rfl
 | k+1,i=>by
   rw[j1,B6,Kc s k (i+1),As,digit,dash]
   generalize B6 _ k (i+1)=z
   generalize decide (97≤(((s.g i).toNat:Nat):Int))=a
   generalize decide ((((s.g i).toNat:Nat):Int)≤122)=b
   generalize decide (48≤(((s.g i).toNat:Nat):Int))=c
   generalize decide ((((s.g i).toNat:Nat):Int)≤57)=d
   generalize decide ((((s.g i).toNat:Nat):Int)=45)=e
   generalize decide ((i:Int)=0)=f
   cases a<;>cases b<;>cases c<;>cases d<;>cases e<;>cases f<;>rfl
theorem Ke (s:List UInt8):∀(k i:Nat),dH s k i=bif B6 (fun j=>As (s.g j)||(digit (s.g j)||dash (s.g j))) k i then none else some false
 | 0,_=>rfl
 | k+1,i=>by
   rw[dH,B6,Ke s k (i+1),As,digit,dash]
   simp only[aaK]
   generalize B6 _ k (i+1)=z
   generalize decide (97≤(((s.g i).toNat:Nat):Int))=a
   generalize decide ((((s.g i).toNat:Nat):Int)≤122)=b
   generalize decide (48≤(((s.g i).toNat:Nat):Int))=c
   generalize decide ((((s.g i).toNat:Nat):Int)≤57)=d
   generalize decide ((((s.g i).toNat:Nat):Int)=45)=e
   cases a<;>cases b<;>cases c<;>cases d<;>cases e<;>rfl
theorem Uv (s:List UInt8):ia s=fI s:=by
 unfold ia fI
 cases s with
 | nil=>rfl
 | cons x s=>
   rw[decide_eq_false (show ¬x::s=[] by simp),decide_eq_false (show ¬(((x::s).length:Nat):Int)=0 by simp;omega)]
   cases decide (16<(((x::s).length:Nat):Int)) with
   | true=>rfl
   | false=>
     rw[Kc,Ke,List.length_cons,B6,B6,aaK,aaK]
     rw[all_congr (f:=fun j=>As ((x::s).g j)||(!decide ((j:Int)=0)&&(digit ((x::s).g j)||dash ((x::s).g j)))) (g:=fun j=>As ((x::s).g j)||(digit ((x::s).g j)||dash ((x::s).g j))) s.length (0+1) fun j hj _=>by
      simp only[decide_eq_false (show ¬(j:Int)=0 by omega),Bool.not_false,Bool.true_and]]
     simp only[As]
     rw[show decide (((0:Nat):Int)=0)=true from rfl]
     generalize B6 _ s.length (0+1)=z
     generalize decide (97≤((((x::s).g 0).toNat:Nat):Int))=a
     generalize decide (((((x::s).g 0).toNat:Nat):Int)≤122)=b
     generalize digit ((x::s).g 0)=c
     generalize dash ((x::s).g 0)=e
     cases a<;>cases b<;>cases c<;>cases e<;>cases z<;>rfl
def pv:Code:=(Tryz.f55.body).getD .skip
theorem jt:Tryz.f55.body=some pv:=by kernel_rfl
def yL:Code:=(bw pv).getD 0 .skip
def cD (x_:bJ):Nat→Nat→Option (Int)
 | 0,_=>none
 | dq+1,i0=>(bif (!(d_ (x_.off.g i0).bq)) then some 1 else (bif (!(d_ (x_.off.g i0).ba)) then some 1 else (bif (decide ((x_.off.g i0).ba<((x_.off.g i0).bq))) then some 1 else (bif (decide (0<((i0:Nat):Int))) then (bif (decide ((x_.off.g i0).bq≤((x_.off.g (i0 - 1)).ba))) then some 1 else cD x_ dq (i0+1)) else cD x_ dq (i0+1)))))
theorem lr {d:Nat} {h:aC} (x_:bJ) (bk:Nat) (bx:x_.name.length<2^60) (cZ:aW h x_.dW x_.off) (g5:aR.ok h x_):∀(k_ i_:Nat) (_:i_+k_=x_.off.length) (x:Nat→AV) (hh:aC) (aI:Tidy hh) (aE:Has h hh) (br:hh.get bk=some (aM.cells [(AV.str x_.name),(Zi x_.aJ),x_.dW] 37 false)),aF (cN (d+1)) yL ⟨((x 0)::(Pt bk)::(x 2)::(Zn i_)::rx x 4 58 []),hh,[],.no⟩ (.exit 0) hh (fun y=>((y 0)::(Pt bk)::rx y 2 60 [])) (fun r y=>((y 0)::(Pt bk)::(Zi r)::rx y 3 59 [])) (cD x_ k_ i_)
 | 0,i0,fX,x,hh,aI,aE,br=>by
   have iC:cb (some (.slice 72)) (some x_.dW)=some (Zn x_.off.length):=(cZ.has aE).len
   have q2:(decide (((i0:Nat):Int)<((x_.off.length:Nat):Int)))=false:=d!
   exact aF.out rfl (pk (d+1) _ _ hh _ hh (CN 2<|MM (aO 35 2 x_.dW br k!)<|VV iC<|VV (bL 3 false false .i64 ((i0:Nat):Int) ((x_.off.length:Nat):Int))<|BB q2<|ZZ) k!) (bE.refl aI) k!
 | dq+1,i0,fX,x,hh,aI,aE,br=>by
   have nz:=cZ.small
   have sU:=aI _ _ br
   have iC:cb (some (.slice 72)) (some x_.dW)=some (Zn x_.off.length):=(cZ.has aE).len
   have q2:(decide (((i0:Nat):Int)<((x_.off.length:Nat):Int)))=true:=d!
   obtain ⟨p4,q5,lp⟩:=(cZ.has aE).elem (i:=i0) o!
   have wJ:bO env (some (.slice 72)) (some x_.dW) (some (Zn i0))=some (AV.ptr p4 q5):=lp
   have tD:bh env hh 72 (AV.ptr p4 q5)=some (AV.agg [(Zi (x_.off.g i0).bq),(Zi (x_.off.g i0).ba)]):=(cZ.has aE).load o! lp
   obtain ⟨h7,ahv,eP,vH,fH,B7⟩:=jE aI (aM.cells [(Zi 0),(Zi 0)] 72 false)
   have dm:Has hh h7:=B7
   obtain ⟨h8,ahw,sa,agy,lg,rL⟩:=n5 (t:=72) (n:=2) (i:=hh.nx) (L:=[(Zi (x_.off.g i0).bq),(Zi (x_.off.g i0).ba)]) eP fH k! rfl rfl (by simp only[AV.cells,List.all_cons,List.all_nil,Bool.and_true,Bool.and_self,gr,eO,gu,gv,dG,jK,jL,jM,jN,jO,gz])
   have o9:Has hh h8:=Has.dg dm rL aI o!
   have k9:=ym (d:=d) (x_.off.g i0).bq sa
   have dJ:=fun {al ps} (k:Pk al _ ps)=>(CN 2<|MM (aO 35 2 x_.dW br k!)<|VV iC<|VV (bL 3 false false .i64 ((i0:Nat):Int) ((x_.off.length:Nat):Int))<|BC q2<|MM (aO 35 2 x_.dW br k!)<|CC<|VV wJ<|MM tD<|NN ahv (fun i=>(Pt i))<|SS ahw<|CC<|MM (aO 3 0 (Zi (x_.off.g i0).bq) lg k!)<|EE k9<|CN 2<|k:Pk _ [] ps)
   rcases Bool.eq_false_or_eq_true (!(d_ (x_.off.g i0).bq)) with f1 | f1
   · exact aF.ret 1 (by simp only[cD,f1,aj,ai]) (pk (d+1) _ _ hh _ h8 (dJ<|BB f1<|BB f1<|BB f1<|BV f1 (yA true f1)<|CC<|TT<|TT<|TT<|TT<|TT<|CN 2<|TT<|TT<|TT<|TT<|CC<|HH (aO 3 0 (Zi (x_.off.g i0).bq) lg k!)<|HH (show AV.same 20 (Zi (x_.off.g i0).bq) (Zi (x_.off.g i0).bq)=true from aS 19 _ _)<|TT<|CC<|ZZ) k!) (⟨sa,o9,by omega⟩) k!
   · have k11:=ym (d:=d) (x_.off.g i0).ba sa
     have hX:=fun {al ps} (k:Pk al _ ps)=>(dJ<|BC f1<|BM f1 (aO 3 1 (Zi (x_.off.g i0).ba) lg k!)<|BB f1<|EE k11<|BC f1<|VV (cf (a:=some (AV.bool true)) (b:=some (AV.bool (!(d_ (x_.off.g i0).ba)))) f1)<|CC<|k:Pk _ [] ps)
     rcases Bool.eq_false_or_eq_true (!(d_ (x_.off.g i0).ba)) with f2 | f2
     · exact aF.ret 1 (by simp only[cD,f1,f2,aj,ai]) (pk (d+1) _ _ hh _ h8 (hX<|BB f2<|BB f2<|BB f2<|BB f2<|BV f2 (yA true f2)<|CC<|TT<|TT<|TT<|TT<|CC<|HH (aO 3 0 (Zi (x_.off.g i0).bq) lg k!)<|HH (show AV.same 20 (Zi (x_.off.g i0).bq) (Zi (x_.off.g i0).bq)=true from aS 19 _ _)<|HH (aO 3 1 (Zi (x_.off.g i0).ba) lg k!)<|HH (show AV.same 20 (Zi (x_.off.g i0).ba) (Zi (x_.off.g i0).ba)=true from aS 19 _ _)<|TT<|CC<|ZZ) k!) (⟨sa,o9,by omega⟩) k!
     · have ow:=fun {al ps} (k:Pk al _ ps)=>(hX<|BC f2<|BM f2 (aO 3 0 (Zi (x_.off.g i0).bq) lg k!)<|BC f2<|BM f2 (aO 3 1 (Zi (x_.off.g i0).ba) lg k!)<|BV f2 (dw 3 false false .i64 (x_.off.g i0).bq (x_.off.g i0).ba)<|VV (cf (a:=some (AV.bool true)) (b:=some (AV.bool (decide ((x_.off.g i0).ba<((x_.off.g i0).bq))))) f2)<|CC<|k:Pk _ [] ps)
       rcases Bool.eq_false_or_eq_true (decide ((x_.off.g i0).ba<((x_.off.g i0).bq))) with f3 | f3
       · have yG:=of_decide_eq_true f3
         exact aF.ret 1 (by simp only[cD,f1,f2,f3,aj,ai]) (pk (d+1) _ _ hh _ h8 (ow<|BB f3<|BB f3<|BB f3<|BV f3 (yA true f3)<|HH (aO 3 0 (Zi (x_.off.g i0).bq) lg k!)<|HH (show AV.same 20 (Zi (x_.off.g i0).bq) (Zi (x_.off.g i0).bq)=true from aS 19 _ _)<|HH (aO 3 1 (Zi (x_.off.g i0).ba) lg k!)<|HH (show AV.same 20 (Zi (x_.off.g i0).ba) (Zi (x_.off.g i0).ba)=true from aS 19 _ _)<|HH (aO 3 0 (Zi (x_.off.g i0).bq) lg k!)<|HH (show AV.same 20 (Zi (x_.off.g i0).bq) (Zi (x_.off.g i0).bq)=true from aS 19 _ _)<|HH (aO 3 1 (Zi (x_.off.g i0).ba) lg k!)<|HH (show AV.same 20 (Zi (x_.off.g i0).ba) (Zi (x_.off.g i0).ba)=true from aS 19 _ _)<|TT<|CC<|ZZ) k!) (⟨sa,o9,by omega⟩) k!
       · have yG:=of_decide_eq_false f3
         have y9:=fun {al ps} (k:Pk al _ ps)=>(ow<|BC f3<|BV f3 (dw 3 false true .i64 ((i0:Nat):Int) 0)<|BC f3<|k:Pk _ [] ps)
         rcases Bool.eq_false_or_eq_true (decide (0<((i0:Nat):Int))) with f4 | f4
         · have R1:=of_decide_eq_true f4
           have u15:=ajl 3 false true i0 1 o! o!
           obtain ⟨RV,RW,xx⟩:=(cZ.has aE).elem (i:=(i0 - 1)) o!
           have C2:bO env (some (.slice 72)) (some x_.dW) (some (Zn (i0 - 1)))=some (AV.ptr RV RW):=xx
           have Bs:bh env h8 3 (AV.ptr RV (RW+1))=some (Zi (x_.off.g (i0 - 1)).ba):=((cZ.has aE).has o9).part (t:=3) (j:=1) o! xx k! rfl
           have c20:AV.same 20 x_.dW x_.dW=true:=(cZ.has aE).same 19
           have AL:=fun {al ps} (k:Pk al _ ps)=>(y9<|BC f4<|BM f4 (aO 3 0 (Zi (x_.off.g i0).bq) lg k!)<|BC f4<|BM f4 (aO 35 2 x_.dW (rL _ _ o! (B7 _ _ br)) k!)<|BC f4<|BV f4 u15<|BV f4 C2<|BC f4<|BM f4 Bs<|BV f4 (vF 3 false false .i64 (x_.off.g i0).bq (x_.off.g (i0 - 1)).ba)<|BV f3 (sP (decide ((x_.off.g i0).bq≤((x_.off.g (i0 - 1)).ba))) false f4)<|VV (cf (a:=some (AV.bool true)) (b:=some (AV.bool (decide ((x_.off.g i0).bq≤((x_.off.g (i0 - 1)).ba))))) f3)<|HH (aO 3 0 (Zi (x_.off.g i0).bq) lg k!)<|HH (show AV.same 20 (Zi (x_.off.g i0).bq) (Zi (x_.off.g i0).bq)=true from aS 19 _ _)<|HH (aO 3 1 (Zi (x_.off.g i0).ba) lg k!)<|HH (show AV.same 20 (Zi (x_.off.g i0).ba) (Zi (x_.off.g i0).ba)=true from aS 19 _ _)<|HH (aO 3 0 (Zi (x_.off.g i0).bq) lg k!)<|HH (show AV.same 20 (Zi (x_.off.g i0).bq) (Zi (x_.off.g i0).bq)=true from aS 19 _ _)<|HH (aO 3 1 (Zi (x_.off.g i0).ba) lg k!)<|HH (show AV.same 20 (Zi (x_.off.g i0).ba) (Zi (x_.off.g i0).ba)=true from aS 19 _ _)<|HH (aO 3 0 (Zi (x_.off.g i0).bq) lg k!)<|HH (show AV.same 20 (Zi (x_.off.g i0).bq) (Zi (x_.off.g i0).bq)=true from aS 19 _ _)<|HH (aO 35 2 x_.dW (rL _ _ o! (B7 _ _ br)) k!)<|HH c20<|HH Bs<|HH (show AV.same 20 (Zi (x_.off.g (i0 - 1)).ba) (Zi (x_.off.g (i0 - 1)).ba)=true from aS 19 _ _)<|k:Pk _ [] ps)
           rcases Bool.eq_false_or_eq_true (decide ((x_.off.g i0).bq≤((x_.off.g (i0 - 1)).ba))) with f5 | f5
           · have ahx:=of_decide_eq_true f5
             exact aF.ret 1 (by simp only[cD,f1,f2,f3,f4,f5,aj,ai]) (pk (d+1) _ _ hh _ h8 (AL<|BC f5<|ZZ) k!) (⟨sa,o9,by omega⟩) k!
           · have ahx:=of_decide_eq_false f5
             have u22:=fi 3 false true i0 1 o!
             exact aF.round (by simp only[cD,f1,f2,f3,f4,f5,aj,ai]) (pk (d+1) _ _ hh _ h8 (AL<|BC f5<|VV u22<|CC<|ZZ) k!) (⟨sa,o9,by omega⟩) _ k! (fun x=>lr x_ bk bx cZ g5 dq (i0+1) o! x h8 sa (aE.trans o9) (rL _ _ o! (B7 _ _ br)))
         · have R1:=of_decide_eq_false f4
           have u15:=fi 3 false true i0 1 o!
           exact aF.round (by simp only[cD,f1,f2,f3,f4,aj,ai]) (pk (d+1) _ _ hh _ h8 (y9<|BB f4<|BB f4<|BB f4<|BB f4<|BB f4<|BB f4<|BB f4<|BB f4<|BB f4<|BB f4<|BV f3 (yB false f4)<|VV (pcf true false f3)<|HH (aO 3 0 (Zi (x_.off.g i0).bq) lg k!)<|HH (show AV.same 20 (Zi (x_.off.g i0).bq) (Zi (x_.off.g i0).bq)=true from aS 19 _ _)<|HH (aO 3 1 (Zi (x_.off.g i0).ba) lg k!)<|HH (show AV.same 20 (Zi (x_.off.g i0).ba) (Zi (x_.off.g i0).ba)=true from aS 19 _ _)<|HH (aO 3 0 (Zi (x_.off.g i0).bq) lg k!)<|HH (show AV.same 20 (Zi (x_.off.g i0).bq) (Zi (x_.off.g i0).bq)=true from aS 19 _ _)<|HH (aO 3 1 (Zi (x_.off.g i0).ba) lg k!)<|HH (show AV.same 20 (Zi (x_.off.g i0).ba) (Zi (x_.off.g i0).ba)=true from aS 19 _ _)<|FF<|CC<|VV u15<|CC<|ZZ) k!) (⟨sa,o9,by omega⟩) _ k! (fun x=>lr x_ bk bx cZ g5 dq (i0+1) o! x h8 sa (aE.trans o9) (rL _ _ o! (B7 _ _ br)))
def bY (x_:bJ):Int:=(bif (decide (x_.aJ<0)) then 1 else (bif (decide (1000<x_.aJ)) then 1 else (bif (decide (16<((x_.off.length:Nat):Int))) then 3 else (match (cD x_ x_.off.length 0) with | none=>0 | some EO=>EO))))
theorem B8 {d:Nat} {h:aC} (x_:bJ) (qZ:aR.ok h x_) (ch:Tidy h):cN (d+2) (.fn 55) [(AV.agg [(AV.str x_.name),(Zi x_.aJ),x_.dW])] h= .ret (Zi (bY x_)) h:=by
 obtain ⟨h1,di,cS,jU,bm,bP⟩:=jE ch (aM.cells [(AV.str x_.name),(Zi x_.aJ),x_.dW] 37 false)
 have bA:Has h h1:=bP
 have R0:=fun {al ps} (k:Pk al _ ps)=>(NN di (fun i=>(Pt i))<|CN 2<|MM (aO 3 1 (Zi x_.aJ) bm k!)<|VV (bL 3 false true .i64 x_.aJ 0)<|CC<|k:Pk _ [] ps)
 rcases Bool.eq_false_or_eq_true (decide (x_.aJ<0)) with f0 | f0
 · have e:bY x_=1:=by simp only[bY,f0,aj,ai]
   rw[e]
   exact aH rfl (bb Tryz.func55 jt rfl (.inr rfl) (pk (d+1) _ _ h _ h1 (R0<|BB f0<|BB f0<|BV f0 (yA true f0)<|TT<|CC<|ZZ) k!) k!) bA rfl
 · have Pd:=fun {al ps} (k:Pk al _ ps)=>(R0<|BC f0<|BM f0 (aO 3 1 (Zi x_.aJ) bm k!)<|BV f0 (dw 3 false true .i64 x_.aJ 1000)<|k:Pk _ [] ps)
   rcases Bool.eq_false_or_eq_true (decide (1000<x_.aJ)) with f1 | f1
   · have e:bY x_=1:=by simp only[bY,f0,f1,aj,ai]
     rw[e]
     exact aH rfl (bb Tryz.func55 jt rfl (.inr rfl) (pk (d+1) _ _ h _ h1 (Pd<|VV (cf (a:=some (AV.bool true)) (b:=some (AV.bool (decide (1000<x_.aJ)))) f0)<|BC f1<|ZZ) k!) k!) bA rfl
   · have D_:cb (some (.slice 72)) (some x_.dW)=some (Zn x_.off.length):=qZ.2.len
     rcases Bool.eq_false_or_eq_true (decide (16<((x_.off.length:Nat):Int))) with f2 | f2
     · have e:bY x_=3:=by simp only[bY,f0,f1,f2,aj,ai]
       rw[e]
       exact aH rfl (bb Tryz.func55 jt rfl (.inr rfl) (pk (d+1) _ _ h _ h1 (Pd<|VV (cf (a:=some (AV.bool true)) (b:=some (AV.bool (decide (1000<x_.aJ)))) f0)<|BC f1<|MM (aO 35 2 x_.dW bm k!)<|VV D_<|VV (dw 3 false true .i64 ((x_.off.length:Nat):Int) 16)<|BC f2<|ZZ) k!) k!) bA rfl
     · have lp8:=lr (d:=d) (h:=h) x_ h.nx qZ.1 qZ.2 qZ x_.off.length 0 o! (fun k_=>(((AV.agg [(AV.str x_.name),(Zi x_.aJ),x_.dW])::(Pt h.nx)::(Zi 0)::(Zi 0)::AV.undef::(AV.ptr h.nx 1)::(Zi x_.aJ)::(AV.bool (decide (x_.aJ<0)))::(AV.bool (decide (x_.aJ<0)))::(AV.ptr h.nx 1)::(Zi x_.aJ)::(AV.bool (decide (1000<x_.aJ)))::(AV.bool (decide (1000<x_.aJ)))::(AV.ptr h.nx 2)::x_.dW::(Zn x_.off.length)::(AV.bool (decide (16<((x_.off.length:Nat):Int))))::jX 45):List AV).getD k_ AV.undef) h1 cS bA bm
       cases ko:cD x_ x_.off.length 0 with
       | none=>
         obtain ⟨yl6,h7,lu,aaL⟩:=aF.n ko lp8
         have dm:Has h h7:=bA.trans aaL.a
         have e:bY x_=0:=by simp only[bY,f0,f1,f2,ko,aj,ai]
         rw[e]
         exact aH rfl (bb Tryz.func55 jt rfl (.inr rfl) (pk (d+1) _ _ h _ h7 (Pd<|VV (cf (a:=some (AV.bool true)) (b:=some (AV.bool (decide (1000<x_.aJ)))) f0)<|BC f1<|MM (aO 35 2 x_.dW bm k!)<|VV D_<|VV (dw 3 false true .i64 ((x_.off.length:Nat):Int) 16)<|BC f2<|LL lu<|CC<|ZZ) k!) k!) dm rfl
       | some EO=>
         obtain ⟨yl6,h7,lu,aaL⟩:=aF.r ko lp8
         have dm:Has h h7:=bA.trans aaL.a
         have e:bY x_=EO:=by simp only[bY,f0,f1,f2,ko,aj,ai]
         rw[e]
         exact aH rfl (bb Tryz.func55 jt rfl (.inr rfl) (pk (d+1) _ _ h _ h7 (Pd<|VV (cf (a:=some (AV.bool true)) (b:=some (AV.bool (decide (1000<x_.aJ)))) f0)<|BC f1<|MM (aO 35 2 x_.dW bm k!)<|VV D_<|VV (dw 3 false true .i64 ((x_.off.length:Nat):Int) 16)<|BC f2<|LL lu<|ZZ) k!) k!) dm rfl
end
end Go.Proofs.aQ
