import Derived.Test.YtfllahfbmaafcaaW0
import Derived.Test.YtfllahfbmaafcaaW2
set_option linter.unusedVariables false
set_option linter.unusedSimpArgs false
namespace Go.Proofs.aG
open Go.Proofs Ab
noncomputable section
set_option maxRecDepth 100000
set_option maxHeartbeats 4000000
theorem fH {p:Prop} (h:p:=by first | omega | (simp<;>omega)):p:=h
def vg:Code:=(Try.f53.body).getD .skip
theorem Cs:Try.f53.body=some vg:=by kernel_rfl
def G8:Code:=(cc vg).getD 0 .skip
def a_ (l_:List Span):Nat→Nat→List Span→Bool→Int→Int→List Span×Bool×Int×Int
 | 0,_,fh,uQ,bT,bU=>(fh,uQ,bT,bU)
 | dQ+1,i0,fh,uQ,bT,bU=>(bif (decide ((IntKind.i64.wrap (((l_.g i0).aq)+1))<bT)) then a_ l_ dQ (i0+1) (fh++[(l_.g i0)]) uQ bT bU else (bif (decide ((IntKind.i64.wrap (bU+1))<((l_.g i0).ay))) then (bif (!uQ) then a_ l_ dQ (i0+1) ((fh++[(⟨bT,bU⟩:Span)])++[(l_.g i0)]) true bT bU else a_ l_ dQ (i0+1) (fh++[(l_.g i0)]) uQ bT bU) else a_ l_ dQ (i0+1) fh uQ (xB bT (l_.g i0).ay) (imax bU (l_.g i0).aq)))
theorem kP {d:Nat} {h:aA} (bJ:AV) (l_:List Span) (bL:Nat) (bF:aY h bJ l_) (nv:l_.length≤1000) (bS:Tidy h) (pU:h.nx≤bL):∀(k_ i_:Nat) (fh:List Span) (uQ:Bool) (bT:Int) (bU:Int) (Ct:AV) (_:i_+k_=l_.length) (x:Nat→AV) (hh:aA) (aQ:Tidy hh) (aW:Has h hh) (gQ:h.nx≤hh.nx) (bG:hh.get bL=some (aX.cells [(Zi bT),(Zi bU)] 23 false)) (Cu:bH h hh Ct fh) (vT:∀y∈fh,aF.ok hh y) (Yh:fh.length≤2*i_+0) (dJ:b6 Ct bL),e_ (σ:=List Span×Bool×Int×Int) (ζ:=AV) (cz (d)) G8 ⟨(bJ::(x 1)::(x 2)::(Pt bL)::(x 4)::Ct::(AV.bool uQ)::(Zn i_)::rx x 8 70 []),hh,[],.no⟩ (.exit 0) hh (fun r z y=>(bJ::(y 1)::(y 2)::(Pt bL)::(y 4)::z::(AV.bool r.2.1)::rx y 7 71 [])) (fun r z hk=>Has h hk∧hk.get bL=some (aX.cells [(Zi r.2.2.1),(Zi r.2.2.2)] 23 false)∧bH h hk z r.1∧(∀y∈r.1,aF.ok hk y)∧r.1.length≤2*l_.length+0∧b6 z bL) (a_ l_ k_ i_ fh uQ bT bU)
 | 0,i0,fh,uQ,bT,bU,Ct,kY,x,hh,aQ,aW,gQ,bG,Cu,vT,Yh,dJ=>by
   have eR:=bF.small
   have pS:=aQ _ _ bG
   have ja:dy (some (.slice 23)) (some bJ)=some (Zn l_.length):=bF.len
   have q2:(decide (((i0:Nat):Int)<((l_.length:Nat):Int)))=false:=d!
   exact e_.out (fh,uQ,bT,bU) Ct rfl (pk (d) _ _ hh _ hh (CN 2<|VV ja<|VV (bK 3 false false .i64 ((i0:Nat):Int) ((l_.length:Nat):Int))<|BB q2<|ZZ) k!) aQ o! ⟨aW,bG,Cu,vT,fH,dJ⟩ k!
 | dQ+1,i0,fh,uQ,bT,bU,Ct,kY,x,hh,aQ,aW,gQ,bG,Cu,vT,Yh,dJ=>by
   have eR:=bF.small
   have pS:=aQ _ _ bG
   have ja:dy (some (.slice 23)) (some bJ)=some (Zn l_.length):=bF.len
   have q2:(decide (((i0:Nat):Int)<((l_.length:Nat):Int)))=true:=d!
   obtain ⟨p4,q5,jD⟩:=bF.elem (i:=i0) o!
   have tb:cK env (some (.slice 23)) (some bJ) (some (Zn i0))=some (AV.ptr p4 q5):=jD
   have qv:bk env hh 3 (AV.ptr p4 (q5+1))=some (Zi (l_.g i0).aq):=(bF.has aW).part (t:=3) (j:=1) o! jD k! rfl
   have mV:=fun {al ps} (k:Pk al _ ps)=>(CN 2<|VV ja<|VV (bK 3 false false .i64 ((i0:Nat):Int) ((l_.length:Nat):Int))<|BB q2<|CN 2<|VV tb<|CC<|MM qv<|CN 2<|MM (aO 3 0 (Zi bT) bG k!)<|VV (bK 3 false false .i64 (IntKind.i64.wrap (((l_.g i0).aq)+1)) bT)<|CC<|HH qv<|HH (show AV.same 20 (Zi (l_.g i0).aq) (Zi (l_.g i0).aq)=true from aJ 19 _ _)<|HH (aO 3 0 (Zi bT) bG k!)<|HH (show AV.same 20 (Zi bT) (Zi bT)=true from aJ 19 _ _)<|k:Pk _ [] ps)
   rcases bZq (decide ((IntKind.i64.wrap (((l_.g i0).aq)+1))<bT)) with f1 | f1
   · have ic:=of_decide_eq_true f1
     obtain ⟨p9,SU,Cv⟩:=bF.elem (i:=i0) o!
     have ND:cK env (some (.slice 23)) (some bJ) (some (Zn i0))=some (AV.ptr p9 SU):=Cv
     have AJ:bk env hh 23 (AV.ptr p9 SU)=some (AV.agg [(Zi (l_.g i0).ay),(Zi (l_.g i0).aq)]):=(bF.has aW).load o! Cv
     obtain ⟨uR,acV,tj,NF,f_,NG⟩:=fY aQ (aX.cells [(Zi (l_.g i0).ay),(Zi (l_.g i0).aq)] 23 false)
     have tk:Has h uR:=aW.trans NG
     have SV:Has hh uR:=NG
     obtain ⟨jJ,pX,aaf,pE,SP,acW,afM,aag,aah⟩:=bH.B_ (tys:= #[34,34]) (l:=fh) (m:=[(l_.g i0)]) (x:=(AV.slice hh.nx 0 1 1 false)) tj bS tk o! (bH.has Cu SV) rfl (jk (x:=(l_.g i0)) f_) (by simp [aF.c,Span.c,AV.scalar]) fH rfl rfl k! k! (bytes:=16) k! (z0:=(AV.agg [(Zi 0),(Zi 0)])) k! rfl (by decide)
     have ma:Has h pX:=acW
     have aai:∀y∈(fh++[(l_.g i0)]),aF.ok pX y:=eP (D:=Span) (mJ (eP (D:=Span) (h':=uR) vT) (ok_one trivial))
     have u16:=fu 3 false true i0 1 o!
     exact e_.round (by simp only[a_,f1,ak,aj]) (pk (d) _ _ hh _ pX (mV<|BB f1<|CN 3<|VV ND<|MM AJ<|NN acV (fun i=>(AV.slice i 0 1 1 false))<|PP (show bX env uR #[34,34] Ct (AV.slice hh.nx 0 1 1 false)=some (jJ,pX) from aaf)<|CN 2<|VV u16<|CC<|ZZ) k!) o! _ k! (fun x=>kP bJ l_ bL bF nv bS pU dQ (i0+1) (fh++[(l_.g i0)]) uQ bT bU jJ o! x pX pE ma o! (aag _ _ dJ (NG _ _ bG)) afM aai fH (aah _ (tj _ _ (NG _ _ bG)) dJ))
   · have ic:=of_decide_eq_false f1
     obtain ⟨p9,SU,Cv⟩:=bF.elem (i:=i0) o!
     have ND:cK env (some (.slice 23)) (some bJ) (some (Zn i0))=some (AV.ptr p9 SU):=Cv
     have AJ:bk env hh 3 (AV.ptr p9 (SU+0))=some (Zi (l_.g i0).ay):=(bF.has aW).part (t:=3) (j:=0) o! Cv k! rfl
     have yC:=fun {al ps} (k:Pk al _ ps)=>(mV<|BC f1<|MM (aO 3 1 (Zi bU) bG k!)<|CN 3<|VV ND<|CC<|MM AJ<|VV (bK 3 false false .i64 (IntKind.i64.wrap (bU+1)) (l_.g i0).ay)<|CC<|HH (aO 3 1 (Zi bU) bG k!)<|HH (show AV.same 20 (Zi bU) (Zi bU)=true from aJ 19 _ _)<|HH AJ<|HH (show AV.same 20 (Zi (l_.g i0).ay) (Zi (l_.g i0).ay)=true from aJ 19 _ _)<|k:Pk _ [] ps)
     rcases bZq (decide ((IntKind.i64.wrap (bU+1))<((l_.g i0).ay))) with f2 | f2
     · have my:=of_decide_eq_true f2
       rcases bZq (!uQ) with f3 | f3
       · obtain ⟨G7,acX,ti,Yg,JB,E1⟩:=fY aQ (aX.cells [(Zi bT),(Zi bU)] 23 false)
         have Cr:Has h G7:=aW.trans E1
         have JC:Has hh G7:=E1
         obtain ⟨z16,Qs,aaj,SX,ahv,acY,afN,SY,SZ⟩:=bH.B_ (tys:= #[34,34]) (l:=fh) (m:=[(⟨bT,bU⟩:Span)]) (x:=(AV.slice hh.nx 0 1 1 false)) ti bS Cr o! (bH.has Cu JC) rfl (jk (x:=(⟨bT,bU⟩:Span)) JB) (by simp [aF.c,Span.c,AV.scalar]) fH rfl rfl k! k! (bytes:=16) k! (z0:=(AV.agg [(Zi 0),(Zi 0)])) k! rfl (by decide)
         have NH:Has h Qs:=acY
         have aak:∀y∈(fh++[(⟨bT,bU⟩:Span)]),aF.ok Qs y:=eP (D:=Span) (mJ (eP (D:=Span) (h':=G7) vT) (ok_one trivial))
         obtain ⟨p19,q20,Yi⟩:=bF.elem (i:=i0) o!
         have afO:cK env (some (.slice 23)) (some bJ) (some (Zn i0))=some (AV.ptr p19 q20):=Yi
         have afP:bk env Qs 23 (AV.ptr p19 q20)=some (AV.agg [(Zi (l_.g i0).ay),(Zi (l_.g i0).aq)]):=(bF.has NH).load o! Yi
         obtain ⟨xK,acZ,xL,ahw,ac0,NI⟩:=fY SX (aX.cells [(Zi (l_.g i0).ay),(Zi (l_.g i0).aq)] 23 false)
         have xM:Has h xK:=NH.trans NI
         have Pz:Has Qs xK:=NI
         obtain ⟨z24,h23,aal,ac1,ahx,ac2,afQ,aam,aan⟩:=bH.B_ (tys:= #[34,34]) (l:=(fh++[(⟨bT,bU⟩:Span)])) (m:=[(l_.g i0)]) (x:=(AV.slice Qs.nx 0 1 1 false)) xL bS xM o! (bH.has afN Pz) rfl (jk (x:=(l_.g i0)) ac0) (by simp [aF.c,Span.c,AV.scalar]) fH rfl rfl k! k! (bytes:=16) k! (z0:=(AV.agg [(Zi 0),(Zi 0)])) k! rfl (by decide)
         have ac3:Has h h23:=ac2
         have aao:∀y∈((fh++[(⟨bT,bU⟩:Span)])++[(l_.g i0)]),aF.ok h23 y:=eP (D:=Span) (mJ (eP (D:=Span) (h':=xK) aak) (ok_one trivial))
         have u26:=fu 3 false true i0 1 o!
         exact e_.round (by simp only[a_,f1,f2,f3,ak,aj]) (pk (d) _ _ hh _ h23 (yC<|BB f2<|CN 2<|BC f3<|MM (aO 23 0 (AV.agg [(Zi bT),(Zi bU)]) bG k!)<|NN acX (fun i=>(AV.slice i 0 1 1 false))<|PP (show bX env G7 #[34,34] Ct (AV.slice hh.nx 0 1 1 false)=some (z16,Qs) from aaj)<|CN 5<|VV afO<|MM afP<|NN acZ (fun i=>(AV.slice i 0 1 1 false))<|PP (show bX env xK #[34,34] z16 (AV.slice Qs.nx 0 1 1 false)=some (z24,h23) from aal)<|CN 2<|VV u26<|CC<|ZZ) k!) o! _ k! (fun x=>kP bJ l_ bL bF nv bS pU dQ (i0+1) ((fh++[(⟨bT,bU⟩:Span)])++[(l_.g i0)]) true bT bU z24 o! x h23 ac1 ac3 o! (aam _ _ (SZ _ (ti _ _ (E1 _ _ bG)) dJ) (NI _ _ (SY _ _ dJ (E1 _ _ bG)))) afQ aao fH (aan _ (xL _ _ (NI _ _ (SY _ _ dJ (E1 _ _ bG)))) (SZ _ (ti _ _ (E1 _ _ bG)) dJ)))
       · obtain ⟨p15,q16,Yj⟩:=bF.elem (i:=i0) o!
         have afR:cK env (some (.slice 23)) (some bJ) (some (Zn i0))=some (AV.ptr p15 q16):=Yj
         have afS:bk env hh 23 (AV.ptr p15 q16)=some (AV.agg [(Zi (l_.g i0).ay),(Zi (l_.g i0).aq)]):=(bF.has aW).load o! Yj
         obtain ⟨DW,ac4,E2,ac5,S0,NJ⟩:=fY aQ (aX.cells [(Zi (l_.g i0).ay),(Zi (l_.g i0).aq)] 23 false)
         have Cw:Has h DW:=aW.trans NJ
         have S1:Has hh DW:=NJ
         obtain ⟨z20,H5,aap,EV,Ye,ac6,afT,aaq,aar⟩:=bH.B_ (tys:= #[34,34]) (l:=fh) (m:=[(l_.g i0)]) (x:=(AV.slice hh.nx 0 1 1 false)) E2 bS Cw o! (bH.has Cu S1) rfl (jk (x:=(l_.g i0)) S0) (by simp [aF.c,Span.c,AV.scalar]) fH rfl rfl k! k! (bytes:=16) k! (z0:=(AV.agg [(Zi 0),(Zi 0)])) k! rfl (by decide)
         have Ci:Has h H5:=ac6
         have aas:∀y∈(fh++[(l_.g i0)]),aF.ok H5 y:=eP (D:=Span) (mJ (eP (D:=Span) (h':=DW) vT) (ok_one trivial))
         have u22:=fu 3 false true i0 1 o!
         exact e_.round (by simp only[a_,f1,f2,f3,ak,aj]) (pk (d) _ _ hh _ H5 (yC<|BB f2<|CN 2<|BB f3<|CN 3<|VV afR<|MM afS<|NN ac4 (fun i=>(AV.slice i 0 1 1 false))<|PP (show bX env DW #[34,34] Ct (AV.slice hh.nx 0 1 1 false)=some (z20,H5) from aap)<|CN 2<|VV u22<|CC<|ZZ) k!) o! _ k! (fun x=>kP bJ l_ bL bF nv bS pU dQ (i0+1) (fh++[(l_.g i0)]) uQ bT bU z20 o! x H5 EV Ci o! (aaq _ _ dJ (NJ _ _ bG)) afT aas fH (aar _ (E2 _ _ (NJ _ _ bG)) dJ))
     · have my:=of_decide_eq_false f2
       obtain ⟨p14,q15,JD⟩:=bF.elem (i:=i0) o!
       have G9:cK env (some (.slice 23)) (some bJ) (some (Zn i0))=some (AV.ptr p14 q15):=JD
       have LK:bk env hh 3 (AV.ptr p14 (q15+0))=some (Zi (l_.g i0).ay):=(bF.has aW).part (t:=3) (j:=0) o! JD k! rfl
       obtain ⟨p18,q19,JE⟩:=bF.elem (i:=i0) o!
       have S2:cK env (some (.slice 23)) (some bJ) (some (Zn i0))=some (AV.ptr p18 q19):=JE
       have LM:bk env hh 3 (AV.ptr p18 (q19+1))=some (Zi (l_.g i0).aq):=(bF.has aW).part (t:=3) (j:=1) o! JE k! rfl
       obtain ⟨h21,ac7,ac8,ahy,ac9,S3⟩:=rA (t:=23) (n:=2) (i:=bL) (L:=[(Zi (xB bT (l_.g i0).ay)),(Zi (imax bU (l_.g i0).aq))]) aQ bG k! rfl rfl (by simp only[AV.cells,List.all_cons,List.all_nil,Bool.and_true,Bool.and_self,eL,dw,eM,eN,cH,gZ,g_,hB,hD,hI,eO])
       have ada:Has h h21:=Has.cS aW S3 bS o!
       have JF:bH h h21 Ct fh:=bH.kept Cu S3 dJ
       have u22:=fu 3 false true i0 1 o!
       exact e_.round (by simp only[a_,f1,f2,ak,aj]) (pk (d) _ _ hh _ h21 (yC<|BC f2<|MM (aO 3 0 (Zi bT) bG k!)<|CN 2<|VV G9<|CC<|MM LK<|CN 2<|MM (aO 3 1 (Zi bU) bG k!)<|CN 2<|VV S2<|CC<|MM LM<|CN 2<|SS ac7<|HH (aO 3 0 (Zi bT) bG k!)<|HH (show AV.same 20 (Zi bT) (Zi bT)=true from aJ 19 _ _)<|HH LK<|HH (show AV.same 20 (Zi (l_.g i0).ay) (Zi (l_.g i0).ay)=true from aJ 19 _ _)<|HH (aO 3 1 (Zi bU) bG k!)<|HH (show AV.same 20 (Zi bU) (Zi bU)=true from aJ 19 _ _)<|HH LM<|HH (show AV.same 20 (Zi (l_.g i0).aq) (Zi (l_.g i0).aq)=true from aJ 19 _ _)<|CC<|VV u22<|CC<|ZZ) k!) o! _ k! (fun x=>kP bJ l_ bL bF nv bS pU dQ (i0+1) fh uQ (xB bT (l_.g i0).ay) (imax bU (l_.g i0).aq) Ct o! x h21 ac8 ada o! ac9 JF (eP (D:=Span) vT) fH dJ)
def jv (l_:List Span) (x_:Span):List Span:=(bif (!((a_ l_ l_.length 0 ([]:List Span) false x_.ay x_.aq).2.1)) then (((a_ l_ l_.length 0 ([]:List Span) false x_.ay x_.aq).1)++([(⟨(a_ l_ l_.length 0 ([]:List Span) false x_.ay x_.aq).2.2.1,(a_ l_ l_.length 0 ([]:List Span) false x_.ay x_.aq).2.2.2⟩:Span)])) else (a_ l_ l_.length 0 ([]:List Span) false x_.ay x_.aq).1)
theorem LN {d:Nat} {h:aA} {bJ:AV} (l_:List Span) (x_:Span) (dR:aY h bJ l_) (aik:aF.ok h x_) (pV:l_.length≤1000) (bS:Tidy h):∃z hk,cz (d+1) (.fn 53) [bJ,(AV.agg [(Zi x_.ay),(Zi x_.aq)])] h= .ret z hk∧Grow h hk∧aY hk z (jv l_ x_)∧bH h hk z (jv l_ x_):=by
 have mL:=dR.small
 obtain ⟨h1,cj,cg,iu,bf,cf⟩:=fY bS (aX.cells [(Zi x_.ay),(Zi x_.aq)] 23 false)
 have bA:Has h h1:=cf
 obtain ⟨NK,Qq,h3,fG,fA,qw,tp,tq,LO,G_,afU,Qt⟩:=kP (d:=d) (h:=h) bJ l_ h.nx dR o! bS o! l_.length 0 ([]:List Span) false x_.ay x_.aq AV.aP o! (fun k_=>((bJ::(AV.agg [(Zi x_.ay),(Zi x_.aq)])::AV.undef::(Pt h.nx)::AV.aP::AV.aP::(AV.bool false)::(Zi 0)::iL 70):List AV).getD k_ AV.undef) h1 cg bA o! bf (.inl ⟨.inl rfl,rfl⟩) (fun y hy=>by cases hy) (Nat.zero_le _) (b6.nil _)
 have aat:aY h3 NK ((a_ l_ l_.length 0 ([]:List Span) false x_.ay x_.aq).1):=bH.rows LO o! G_
 have aeO:=aat.small
 have fl:Has h h3:=tp
 rcases bZq (!((a_ l_ l_.length 0 ([]:List Span) false x_.ay x_.aq).2.1)) with f0 | f0
 · obtain ⟨h6,tu,qx,LP,vU,gC⟩:=fY fA (aX.cells [(Zi (a_ l_ l_.length 0 ([]:List Span) false x_.ay x_.aq).2.2.1),(Zi (a_ l_ l_.length 0 ([]:List Span) false x_.ay x_.aq).2.2.2)] 23 false)
   have pt:Has h h6:=fl.trans gC
   have G':Has h3 h6:=gC
   obtain ⟨z8,h7,adb,mM,Z7,afV,oz9,ahz⟩:=bH.app (tys:= #[34,34]) (l:=(a_ l_ l_.length 0 ([]:List Span) false x_.ay x_.aq).1) (m:=[(⟨(a_ l_ l_.length 0 ([]:List Span) false x_.ay x_.aq).2.2.1,(a_ l_ l_.length 0 ([]:List Span) false x_.ay x_.aq).2.2.2⟩:Span)]) (x:=(AV.slice h3.nx 0 1 1 false)) qx bS pt o! (LO.has G') rfl (jk (x:=(⟨(a_ l_ l_.length 0 ([]:List Span) false x_.ay x_.aq).2.2.1,(a_ l_ l_.length 0 ([]:List Span) false x_.ay x_.aq).2.2.2⟩:Span)) vU) (by simp [aF.c,Span.c,AV.scalar]) fH rfl rfl k! k! (bytes:=16) k! (z0:=(AV.agg [(Zi 0),(Zi 0)])) k! rfl (by decide)
   have lL:Has h h7:=afV
   have Yk:∀y∈(((a_ l_ l_.length 0 ([]:List Span) false x_.ay x_.aq).1)++([(⟨(a_ l_ l_.length 0 ([]:List Span) false x_.ay x_.aq).2.2.1,(a_ l_ l_.length 0 ([]:List Span) false x_.ay x_.aq).2.2.2⟩:Span)])),aF.ok h7 y:=eP (D:=Span) (mJ (WM G' G_) (ok_one trivial))
   have ade:aY h7 z8 (((a_ l_ l_.length 0 ([]:List Span) false x_.ay x_.aq).1)++([(⟨(a_ l_ l_.length 0 ([]:List Span) false x_.ay x_.aq).2.2.1,(a_ l_ l_.length 0 ([]:List Span) false x_.ay x_.aq).2.2.2⟩:Span)])):=bH.rows oz9 fH Yk
   have aeP:=ade.small
   have e:jv l_ x_=(((a_ l_ l_.length 0 ([]:List Span) false x_.ay x_.aq).1)++([(⟨(a_ l_ l_.length 0 ([]:List Span) false x_.ay x_.aq).2.2.1,(a_ l_ l_.length 0 ([]:List Span) false x_.ay x_.aq).2.2.2⟩:Span)])):=by simp only[jv,f0,ak,aj]
   rw[e]
   have oz:=bH.le (h0:=h) oz9 o!
   exact ⟨z8,jj rfl (ba Try.func53 Cs rfl (.inr rfl) (pk (d) _ _ h _ h7 (NN cj (fun i=>(Pt i))<|CN 4<|LL fG<|CN 2<|BC f0<|MM (aO 23 0 (AV.agg [(Zi (a_ l_ l_.length 0 ([]:List Span) false x_.ay x_.aq).2.2.1),(Zi (a_ l_ l_.length 0 ([]:List Span) false x_.ay x_.aq).2.2.2)]) tq k!)<|NN tu (fun i=>(AV.slice i 0 1 1 false))<|PP (show bX env h6 #[34,34] NK (AV.slice h3.nx 0 1 1 false)=some (z8,h7) from adb)<|CN 3<|ZZ) k!) k!) bS ⟨mM,lL,by omega⟩ (P:=fun hh=>aY hh z8 (((a_ l_ l_.length 0 ([]:List Span) false x_.ay x_.aq).1)++([(⟨(a_ l_ l_.length 0 ([]:List Span) false x_.ay x_.aq).2.2.1,(a_ l_ l_.length 0 ([]:List Span) false x_.ay x_.aq).2.2.2⟩:Span)]))∧bH h hh z8 (((a_ l_ l_.length 0 ([]:List Span) false x_.ay x_.aq).1)++([(⟨(a_ l_ l_.length 0 ([]:List Span) false x_.ay x_.aq).2.2.1,(a_ l_ l_.length 0 ([]:List Span) false x_.ay x_.aq).2.2.2⟩:Span)]))) ⟨bH.rows oz (by first | omega | decide) Yk,oz⟩ fun v=>⟨bH.B' oz v,bH.Cp oz v⟩⟩
 · have e:jv l_ x_=((a_ l_ l_.length 0 ([]:List Span) false x_.ay x_.aq).1):=by simp only[jv,f0,ak,aj]
   rw[e]
   have oz:=bH.le (h0:=h) LO o!
   exact ⟨NK,jj rfl (ba Try.func53 Cs rfl (.inr rfl) (pk (d) _ _ h _ h3 (NN cj (fun i=>(Pt i))<|CN 4<|LL fG<|CN 2<|BB f0<|CN 2<|ZZ) k!) k!) bS ⟨fA,fl,by omega⟩ (P:=fun hh=>aY hh NK ((a_ l_ l_.length 0 ([]:List Span) false x_.ay x_.aq).1)∧bH h hh NK (a_ l_ l_.length 0 ([]:List Span) false x_.ay x_.aq).1) ⟨bH.rows oz (by first | omega | decide) G_,oz⟩ fun v=>⟨bH.B' oz v,bH.Cp oz v⟩⟩

def ah (k:IntKind) (a b:Int):Int:=k.wrap ((BitVec.ofInt k.bits a&&& BitVec.ofInt k.bits b).toNat:Nat)
def Vb (k:IntKind) (a b:Int):Int:=k.wrap ((BitVec.ofInt k.bits a||| BitVec.ofInt k.bits b).toNat:Nat)
def ax (k:IntKind) (x y:Int):Int:=x.fdiv (2^(min y.toNat k.bits))
def d_ (k:IntKind) (x y:Int):Int:=k.wrap (x*2^(min y.toNat k.bits))
def aB (k:IntKind) (x y:Int):Int:=k.wrap (x+y)
theorem mb (t:TypeId) (c d:Bool) (k:IntKind) (a b:Int):cy env .and t c d (some (.int k a)) (some (.int k b))=some (.int k (ah k a b)):=by simp [cy,ks,c_,ah]
theorem NL (t:TypeId) (c d:Bool) (k:IntKind) (a b:Int):cy env .or t c d (some (.int k a)) (some (.int k b))=some (.int k (Vb k a b)):=by simp [cy,ks,c_,Vb]
theorem qy (t:TypeId) (c d:Bool) (k:IntKind) (a b:Int):cy env .add t c d (some (.int k a)) (some (.int k b))=some (.int k (aB k a b)):=by simp [cy,ks,c_,aB]
theorem mc (t:TypeId) (c d:Bool) (k j:IntKind) {a b:Int} (h:0≤b):cy env .shr t c d (some (.int k a)) (some (.int j b))=some (.int k (ax k a b)):=by
 have h':¬b<0:=by omega
 simp [cy,ks,ax,h']
theorem qz (t:TypeId) (c d:Bool) (k j:IntKind) {a b:Int} (h:0≤b):cy env .shl t c d (some (.int k a)) (some (.int j b))=some (.int k (d_ k a b)):=by
 have h':¬b<0:=by omega
 simp [cy,ks,d_,h']
def LQ:Code:=(Try.f32.body).getD .skip
theorem WV:Try.f32.body=some LQ:=by kernel_rfl
def qA (set:Int) (aL:Int):Bool:=(decide ((ah .i64 (ax .i64 set aL) 1)=1))
theorem NM {d:Nat} {h:aA} (set:Int) (aL:Int) (pV:0≤aL) (bS:Tidy h):cz (d+1) (.fn 32) [(Zi set),(Zi aL)] h= .ret (AV.bool (qA set aL)) h:=by
 have u1:cy env .shr 3 false false (some (Zi set)) (some (Zi aL))=some (Zi (ax .i64 set aL)):=mc 3 false false .i64 .i64 o!
 have u2:cy env .and 3 false true (some (Zi (ax .i64 set aL))) (some (Zi 1))=some (Zi (ah .i64 (ax .i64 set aL) 1)):=mb 3 false true .i64 (ax .i64 set aL) 1
 have e:qA set aL=(decide ((ah .i64 (ax .i64 set aL) 1)=1)):=by simp only[qA,ak,aj]
 rw[e]
 exact aE rfl (ba Try.func32 WV rfl (.inr rfl) (pk (d) _ _ h _ h (CN 3<|VV u1<|VV u2<|VV (lV 3 false true .i64 (ah .i64 (ax .i64 set aL) 1) 1)<|CC<|ZZ) k!) k!) (Has.refl _) rfl
def xN:Code:=(Try.f52.body).getD .skip
theorem PA:Try.f52.body=some xN:=by kernel_rfl
def JH:Code:=(cc xN).getD 0 .skip
def dE (l_:List aK) (q:aD) (set:Int):Nat→Nat→List bC→List bC
 | 0,_,iz=>iz
 | dQ+1,i0,iz=>(bif (!(qA set (l_.g i0).aL)) then dE l_ q set dQ (i0+1) (iz++[(⟨(l_.g i0).time,(IntKind.i64.wrap ((l_.g i0).value -(cn (q.aC.g (l_.g i0).aL.toNat) (l_.g i0).time))),(IntKind.i64.wrap (((l_.g i0).value)+(cn (q.aC.g (l_.g i0).aL.toNat) (l_.g i0).time)))⟩:bC)]) else dE l_ q set dQ (i0+1) iz)
theorem rG {d:Nat} {h:aA} (bJ:AV) (set:Int) (l_:List aK) (q:aD) (bL:Nat) (bF:aY h bJ l_) (eZ:q.name.length<2^60) (iy:aY h q.az q.aC) (kG:aF.ok h q) (nv:∀i,i<l_.length→0≤(l_.g i).aL∧(l_.g i).aL<(q.aC.length:Int)) (zm:l_.length≤64) (bS:Tidy h) (pU:h.nx≤bL):∀(k_ i_:Nat) (iz:List bC) (rH:AV) (_:i_+k_=l_.length) (x:Nat→AV) (hh:aA) (aQ:Tidy hh) (aW:Has h hh) (gQ:h.nx≤hh.nx) (bG:hh.get bL=some (aX.cells [(AV.str q.name),(Zi q.ai),(Zi q.af),(Zi q.aH),(Zi q.aI),(Zi q.bad),q.az] 26 false)) (qC:bH h hh rH iz) (mO:∀y∈iz,aF.ok hh y) (JI:iz.length≤1*i_+1) (eh:b6 rH bL),e_ (σ:=List bC) (ζ:=AV) (cz (d+1)) JH ⟨((x 0)::bJ::(Zi set)::(Pt bL)::rx x 4 3 (rH::(Zn i_)::rx x 9 59 [])),hh,[],.no⟩ (.exit 0) hh (fun r z y=>((y 0)::bJ::(Zi set)::(Pt bL)::rx y 4 3 (z::rx y 8 60 []))) (fun r z hk=>Has h hk∧hk.get bL=some (aX.cells [(AV.str q.name),(Zi q.ai),(Zi q.af),(Zi q.aH),(Zi q.aI),(Zi q.bad),q.az] 26 false)∧bH h hk z r∧(∀y∈r,aF.ok hk y)∧r.length≤1*l_.length+1∧b6 z bL) (dE l_ q set k_ i_ iz)
 | 0,i0,iz,rH,kY,x,hh,aQ,aW,gQ,bG,qC,mO,JI,eh=>by
   have eR:=bF.small
   have mK:=iy.small
   have pS:=aQ _ _ bG
   have rd_:=nv i0
   have ja:dy (some (.slice 43)) (some bJ)=some (Zn l_.length):=bF.len
   have q2:(decide (((i0:Nat):Int)<((l_.length:Nat):Int)))=false:=d!
   exact e_.out iz rH rfl (pk (d+1) _ _ hh _ hh (CN 2<|VV ja<|VV (bK 3 false false .i64 ((i0:Nat):Int) ((l_.length:Nat):Int))<|BB q2<|ZZ) k!) aQ o! ⟨aW,bG,qC,mO,(by first | omega | (simp<;>omega)),eh⟩ k!
 | dQ+1,i0,iz,rH,kY,x,hh,aQ,aW,gQ,bG,qC,mO,JI,eh=>by
   have eR:=bF.small
   have mK:=iy.small
   have pS:=aQ _ _ bG
   have rd_:=nv i0
   have ja:dy (some (.slice 43)) (some bJ)=some (Zn l_.length):=bF.len
   have q2:(decide (((i0:Nat):Int)<((l_.length:Nat):Int)))=true:=d!
   obtain ⟨p4,q5,jD⟩:=bF.elem (i:=i0) o!
   have tb:cK env (some (.slice 43)) (some bJ) (some (Zn i0))=some (AV.ptr p4 q5):=jD
   have qv:bk env hh 3 (AV.ptr p4 (q5+0))=some (Zi (l_.g i0).aL):=(bF.has aW).part (t:=3) (j:=0) o! jD k! rfl
   have k7:=NM (d:=d) set (l_.g i0).aL (by first | omega | assumption | (simp only[List.length_set,List.length_replicate,List.length_append,List.length_cons,List.length_nil,List.nil_append]<;>omega) | (rw[List.length_take];omega)) aQ
   rcases bZq (!(qA set (l_.g i0).aL)) with f1 | f1
   · obtain ⟨p10,q11,S4⟩:=bF.elem (i:=i0) o!
     have ix9:cK env (some (.slice 43)) (some bJ) (some (Zn i0))=some (AV.ptr p10 q11):=S4
     have WW:bk env hh 3 (AV.ptr p10 (q11+0))=some (Zi (l_.g i0).aL):=(bF.has aW).part (t:=3) (j:=0) o! S4 k! rfl
     obtain ⟨p14,q15,JD⟩:=iy.elem (i:=((l_.g i0).aL).toNat) o!
     have G9:cK env (some (.slice 45)) (some q.az) (some (Zi (l_.g i0).aL))=some (AV.ptr p14 q15):=by rw[show (((l_.g i0).aL):Int)=(((l_.g i0).aL.toNat:Nat):Int) by omega];exact JD
     have LK:bk env hh 45 (AV.ptr p14 q15)=some (AV.agg [(AV.str (q.aC.g (l_.g i0).aL.toNat).name),(Zi (q.aC.g (l_.g i0).aL.toNat).acc),(Zi (q.aC.g (l_.g i0).aL.toNat).bQ),(Zi (q.aC.g (l_.g i0).aL.toNat).since)]):=(iy.has aW).load o! JD
     obtain ⟨p18,q19,JE⟩:=bF.elem (i:=i0) o!
     have S2:cK env (some (.slice 43)) (some bJ) (some (Zn i0))=some (AV.ptr p18 q19):=JE
     have LM:bk env hh 3 (AV.ptr p18 (q19+1))=some (Zi (l_.g i0).time):=(bF.has aW).part (t:=3) (j:=1) o! JE k! rfl
     have k21:=EW (d:=d) (q.aC.g (l_.g i0).aL.toNat) (l_.g i0).time (aF.mono aW (iy.ok (i:=((l_.g i0).aL).toNat) o!)) aQ
     have c22:AV.same 20 q.az q.az=true:=iy.same 19
     have c23:AV.same 20 (AV.agg [(AV.str (q.aC.g (l_.g i0).aL.toNat).name),(Zi (q.aC.g (l_.g i0).aL.toNat).acc),(Zi (q.aC.g (l_.g i0).aL.toNat).bQ),(Zi (q.aC.g (l_.g i0).aL.toNat).since)]) (AV.agg [(AV.str (q.aC.g (l_.g i0).aL.toNat).name),(Zi (q.aC.g (l_.g i0).aL.toNat).acc),(Zi (q.aC.g (l_.g i0).aL.toNat).bQ),(Zi (q.aC.g (l_.g i0).aL.toNat).since)])=true:=dM 18 (iC (fun n=>jS n _) (iC (fun n=>aJ n _ _) (iC (fun n=>aJ n _ _) (iC (fun n=>aJ n _ _) DC))))
     obtain ⟨p25,q26,S5⟩:=bF.elem (i:=i0) o!
     have afW:cK env (some (.slice 43)) (some bJ) (some (Zn i0))=some (AV.ptr p25 q26):=S5
     have afX:bk env hh 3 (AV.ptr p25 (q26+1))=some (Zi (l_.g i0).time):=(bF.has aW).part (t:=3) (j:=1) o! S5 k! rfl
     obtain ⟨p29,q30,S6⟩:=bF.elem (i:=i0) o!
     have afY:cK env (some (.slice 43)) (some bJ) (some (Zn i0))=some (AV.ptr p29 q30):=S6
     have afZ:bk env hh 3 (AV.ptr p29 (q30+2))=some (Zi (l_.g i0).value):=(bF.has aW).part (t:=3) (j:=2) o! S6 k! rfl
     obtain ⟨p33,q34,S7⟩:=bF.elem (i:=i0) o!
     have af0:cK env (some (.slice 43)) (some bJ) (some (Zn i0))=some (AV.ptr p33 q34):=S7
     have af1:bk env hh 3 (AV.ptr p33 (q34+2))=some (Zi (l_.g i0).value):=(bF.has aW).part (t:=3) (j:=2) o! S7 k! rfl
     obtain ⟨Ym,adf,Yn,ahA,Yo,NO⟩:=fY aQ (aX.cells [(Zi (l_.g i0).time),(Zi (IntKind.i64.wrap ((l_.g i0).value -(cn (q.aC.g (l_.g i0).aL.toNat) (l_.g i0).time)))),(Zi (IntKind.i64.wrap (((l_.g i0).value)+(cn (q.aC.g (l_.g i0).aL.toNat) (l_.g i0).time))))] 77 false)
     have NP:Has h Ym:=aW.trans NO
     have S8:Has hh Ym:=NO
     obtain ⟨z38,h37,aau,adg,ahB,adh,af2,aav,aaw⟩:=bH.B_ (tys:= #[78,78]) (l:=iz) (m:=[(⟨(l_.g i0).time,(IntKind.i64.wrap ((l_.g i0).value -(cn (q.aC.g (l_.g i0).aL.toNat) (l_.g i0).time))),(IntKind.i64.wrap (((l_.g i0).value)+(cn (q.aC.g (l_.g i0).aL.toNat) (l_.g i0).time)))⟩:bC)]) (x:=(AV.slice hh.nx 0 1 1 false)) Yn bS NP o! (bH.has qC S8) rfl (jk (x:=(⟨(l_.g i0).time,(IntKind.i64.wrap ((l_.g i0).value -(cn (q.aC.g (l_.g i0).aL.toNat) (l_.g i0).time))),(IntKind.i64.wrap (((l_.g i0).value)+(cn (q.aC.g (l_.g i0).aL.toNat) (l_.g i0).time)))⟩:bC)) Yo) (by simp [aF.c,bC.c,AV.scalar]) (by first | omega | (simp<;>omega)) rfl rfl k! k! (bytes:=24) k! (z0:=(AV.agg [(Zi 0),(Zi 0),(Zi 0)])) k! rfl (by decide)
     have adi:Has h h37:=adh
     have aax:∀y∈(iz++[(⟨(l_.g i0).time,(IntKind.i64.wrap ((l_.g i0).value -(cn (q.aC.g (l_.g i0).aL.toNat) (l_.g i0).time))),(IntKind.i64.wrap (((l_.g i0).value)+(cn (q.aC.g (l_.g i0).aL.toNat) (l_.g i0).time)))⟩:bC)]),aF.ok h37 y:=eP (D:=bC) (mJ (eP (D:=bC) (h':=Ym) mO) (ok_one trivial))
     have u40:=fu 3 false true i0 1 o!
     exact e_.round (by simp only[dE,f1,ak,aj]) (pk (d+1) _ _ hh _ h37 (CN 2<|VV ja<|VV (bK 3 false false .i64 ((i0:Nat):Int) ((l_.length:Nat):Int))<|BB q2<|CN 3<|VV tb<|CC<|MM qv<|EE k7<|CC<|BC f1<|MM (aO 24 6 q.az bG k!)<|CN 2<|VV ix9<|CC<|MM WW<|VV G9<|MM LK<|CN 2<|VV S2<|CC<|MM LM<|EE k21<|CC<|HH (aO 24 6 q.az bG k!)<|HH c22<|HH WW<|HH (show AV.same 20 (Zi (l_.g i0).aL) (Zi (l_.g i0).aL)=true from aJ 19 _ _)<|HH LK<|HH c23<|HH LM<|HH (show AV.same 20 (Zi (l_.g i0).time) (Zi (l_.g i0).time)=true from aJ 19 _ _)<|CN 3<|VV afW<|CC<|MM afX<|CN 2<|VV afY<|CC<|MM afZ<|CN 4<|VV af0<|CC<|MM af1<|CN 4<|NN adf (fun i=>(AV.slice i 0 1 1 false))<|PP (show bX env Ym #[78,78] rH (AV.slice hh.nx 0 1 1 false)=some (z38,h37) from aau)<|CC<|HH (show bk env Ym 3 (AV.ptr p25 (q26+1))=some (Zi (l_.g i0).time) from ((bF.has NP).part (t:=3) (j:=1) o! S5 k! rfl))<|HH (show AV.same 20 (Zi (l_.g i0).time) (Zi (l_.g i0).time)=true from aJ 19 _ _)<|HH (show bk env Ym 3 (AV.ptr p29 (q30+2))=some (Zi (l_.g i0).value) from ((bF.has NP).part (t:=3) (j:=2) o! S6 k! rfl))<|HH (show AV.same 20 (Zi (l_.g i0).value) (Zi (l_.g i0).value)=true from aJ 19 _ _)<|HH (show bk env Ym 3 (AV.ptr p33 (q34+2))=some (Zi (l_.g i0).value) from ((bF.has NP).part (t:=3) (j:=2) o! S7 k! rfl))<|HH (show AV.same 20 (Zi (l_.g i0).value) (Zi (l_.g i0).value)=true from aJ 19 _ _)<|HH (show ∃o,Ym.get hh.nx=some o∧aX.same o (aX.cells [(Zi (l_.g i0).time),(Zi (IntKind.i64.wrap ((l_.g i0).value -(cn (q.aC.g (l_.g i0).aL.toNat) (l_.g i0).time)))),(Zi (IntKind.i64.wrap (((l_.g i0).value)+(cn (q.aC.g (l_.g i0).aL.toNat) (l_.g i0).time))))] 77 false)=true from ⟨_,Yo,by simp [aX.same,da,AV.same]⟩)<|CC<|VV u40<|CC<|ZZ) k!) o! _ k! (fun x=>rG bJ set l_ q bL bF eZ iy kG nv zm bS pU dQ (i0+1) (iz++[(⟨(l_.g i0).time,(IntKind.i64.wrap ((l_.g i0).value -(cn (q.aC.g (l_.g i0).aL.toNat) (l_.g i0).time))),(IntKind.i64.wrap (((l_.g i0).value)+(cn (q.aC.g (l_.g i0).aL.toNat) (l_.g i0).time)))⟩:bC)]) z38 o! x h37 adg adi o! (aav _ _ eh (NO _ _ bG)) af2 aax (by first | omega | (simp<;>omega)) (aaw _ (Yn _ _ (NO _ _ bG)) eh))
   · have u9:=fu 3 false true i0 1 o!
     exact e_.round (by simp only[dE,f1,ak,aj]) (pk (d+1) _ _ hh _ hh (CN 2<|VV ja<|VV (bK 3 false false .i64 ((i0:Nat):Int) ((l_.length:Nat):Int))<|BB q2<|CN 3<|VV tb<|CC<|MM qv<|EE k7<|CC<|BC f1<|VV u9<|CC<|ZZ) k!) o! _ k! (fun x=>rG bJ set l_ q bL bF eZ iy kG nv zm bS pU dQ (i0+1) iz rH o! x hh aQ aW o! bG qC mO (by first | omega | (simp<;>omega)) eh)
def dK (q:aD) (l_:List aK) (set:Int):List bC:=(dE l_ q set l_.length 0 ([(⟨0,q.ai,q.af⟩:bC)]))
theorem PB {d:Nat} {h:aA} {bJ:AV} (q:aD) (l_:List aK) (set:Int) (fB:aF.ok h q) (dR:aY h bJ l_) (pV:∀i,i<l_.length→0≤(l_.g i).aL∧(l_.g i).aL<(q.aC.length:Int)) (S9:l_.length≤64) (bS:Tidy h):∃z hk,cz (d+2) (.fn 52) [(AV.agg [(AV.str q.name),(Zi q.ai),(Zi q.af),(Zi q.aH),(Zi q.aI),(Zi q.bad),q.az]),bJ,(Zi set)] h= .ret z hk∧Grow h hk∧aY hk z (dK q l_ set)∧bH h hk z (dK q l_ set):=by
 have mL:=dR.small
 have hU:=fB.2.small
 obtain ⟨h1,cj,cg,iu,bf,cf⟩:=fY bS (aX.cells [(AV.str q.name),(Zi q.ai),(Zi q.af),(Zi q.aH),(Zi q.aI),(Zi q.bad),q.az] 26 false)
 have bA:Has h h1:=cf
 obtain ⟨h2,iw,eQ,te,cO,dg⟩:=fY cg (aX.cells [(Zi 0),(Zi q.ai),(Zi q.af)] 77 false)
 have dZ:Has h h2:=bA.trans dg
 have oz3:bH h h2 (AV.slice h1.nx 0 1 1 false) [(⟨0,q.ai,q.af⟩:bC)]:= .inr ⟨by simp,h1.nx,false,rfl,by omega,cO⟩
 obtain ⟨zo6,Z8,h5,lu,sh,Ju,adj,af3,S_,NQ,af4,Qu⟩:=rG (d:=d) (h:=h) bJ set l_ q h.nx dR fB.1 fB.2 fB pV o! bS o! l_.length 0 ([(⟨0,q.ai,q.af⟩:bC)]) (AV.slice h1.nx 0 1 1 false) o! (fun k_=>(((AV.agg [(AV.str q.name),(Zi q.ai),(Zi q.af),(Zi q.aH),(Zi q.aI),(Zi q.bad),q.az])::bJ::(Zi set)::(Pt h.nx)::AV.undef::AV.undef::AV.aP::(AV.slice h1.nx 0 1 1 false)::(Zi 0)::AV.undef::(AV.ptr h.nx 1)::(AV.agg [(Zi q.ai),(Zi q.af)])::(AV.agg [(Zi 0),(Zi q.ai),(Zi q.af)])::(AV.slice h1.nx 0 1 1 false)::iL 54):List AV).getD k_ AV.undef) h2 eQ dZ o! (dg _ _ bf) oz3 (ok_one trivial) (by first | omega | (simp<;>omega)) (b6.slice o!)
 have aay:aY h5 zo6 (dE l_ q set l_.length 0 ([(⟨0,q.ai,q.af⟩:bC)])):=bH.rows S_ o! NQ
 have aeQ:=aay.small
 have nN:Has h h5:=adj
 have e:dK q l_ set=(dE l_ q set l_.length 0 ([(⟨0,q.ai,q.af⟩:bC)])):=by simp only[dK,ak,aj]
 rw[e]
 have oz:=bH.le (h0:=h) S_ o!
 exact ⟨zo6,jj rfl (ba Try.func52 PA rfl (.inr rfl) (pk (d+1) _ _ h _ h5 (NN cj (fun i=>(Pt i))<|CN 2<|MM (aO 23 1 (AV.agg [(Zi q.ai),(Zi q.af)]) bf k!)<|CC<|NN iw (fun i=>(AV.slice i 0 1 1 false))<|CN 2<|LL lu<|CN 2<|ZZ) k!) k!) bS ⟨sh,nN,by omega⟩ (P:=fun hh=>aY hh zo6 (dE l_ q set l_.length 0 ([(⟨0,q.ai,q.af⟩:bC)]))∧bH h hh zo6 (dE l_ q set l_.length 0 ([(⟨0,q.ai,q.af⟩:bC)]))) ⟨bH.rows oz (by first | omega | decide) NQ,oz⟩ fun v=>⟨bH.B' oz v,bH.Cp oz v⟩⟩
def Ac:Code:=(Try.f51.body).getD .skip
theorem S':Try.f51.body=some Ac:=by kernel_rfl
def LS:Code:=(cc Ac).getD 0 .skip
def qD (set:Int):Nat→Nat→Int→Int
 | 0,_,nQ=>nQ
 | dQ+1,i0,nQ=>qD set dQ (i0+1) (IntKind.i64.wrap (nQ+(ah .i64 (ax .i64 set ((i0:Nat):Int)) 1)))
theorem Ad {d:Nat} {h:aA} (set:Int):∀(k_ i_:Nat) (nQ:Int) (_:i_+k_=(Int.toNat 8)) (x:Nat→AV) (hh:aA) (aQ:Tidy hh) (aW:Has h hh),kW (cz (d)) LS ⟨((Zi set)::(x 1)::(x 2)::(Zi nQ)::(Zn i_)::rx x 5 11 []),hh,[],.no⟩ (.exit 0) hh (fun r y=>((Zi set)::(y 1)::(y 2)::(Zi r)::rx y 4 12 [])) (fun r=>True) (qD set k_ i_ nQ)
 | 0,i0,nQ,kY,x,hh,aQ,aW=>by
   have q1:(decide (((i0:Nat):Int)<8))=false:=d!
   exact kW.out nQ rfl (pk (d) _ _ hh _ hh (CC<|VV (bK 3 false true .i64 ((i0:Nat):Int) 8)<|BB q1<|ZZ) k!) (Grow.refl aQ) trivial k!
 | dQ+1,i0,nQ,kY,x,hh,aQ,aW=>by
   have q1:(decide (((i0:Nat):Int)<8))=true:=d!
   have u2:cy env .shr 3 false false (some (Zi set)) (some (Zn i0))=some (Zi (ax .i64 set ((i0:Nat):Int))):=mc 3 false false .i64 .i64 o!
   have u3:cy env .and 3 false true (some (Zi (ax .i64 set ((i0:Nat):Int)))) (some (Zi 1))=some (Zi (ah .i64 (ax .i64 set ((i0:Nat):Int)) 1)):=mb 3 false true .i64 (ax .i64 set ((i0:Nat):Int)) 1
   have u4:=fu 3 false true i0 1 o!
   exact kW.round (by simp only[qD,ak,aj]) (pk (d) _ _ hh _ hh (CC<|VV (bK 3 false true .i64 ((i0:Nat):Int) 8)<|BB q1<|CN 3<|VV u2<|VV u3<|CN 3<|VV u4<|CC<|ZZ) k!) (Grow.refl aQ) _ k! (fun x=>Ad set dQ (i0+1) (IntKind.i64.wrap (nQ+(ah .i64 (ax .i64 set ((i0:Nat):Int)) 1))) o! x hh aQ aW)
def pY (set:Int):Int:=(qD set (Int.toNat 8) 0 0)
theorem Ta {d:Nat} {h:aA} (set:Int) (bS:Tidy h):cz (d+1) (.fn 51) [(Zi set)] h= .ret (Zi (pY set)) h:=by
 obtain ⟨yl1,h2,vV,vW,aeR⟩:=Ad (d:=d) (h:=h) set (Int.toNat 8) 0 0 o! (fun k_=>(((Zi set)::AV.undef::(Zi 0)::(Zi 0)::(Zi 0)::iL 11):List AV).getD k_ AV.undef) h bS (Has.refl _)
 have eQ:=vW.y
 have zn:h.nx≤h2.nx:=vW.n
 have dZ:Has h h2:=vW.a
 have e:pY set=(qD set (Int.toNat 8) 0 0):=by simp only[pY,ak,aj]
 rw[e]
 exact aE rfl (ba Try.func51 S' rfl (.inr rfl) (pk (d) _ _ h _ h2 (CN 3<|LL vV<|CN 2<|ZZ) k!) k!) dZ rfl
theorem jw (l:List Span):∀(k i:Nat) (o:List Span) (p:Bool) (a b:Int),(a_ l k i o p a b).1.length+(bif (a_ l k i o p a b).2.1 then 0 else 1)≤o.length+k+(bif p then 0 else 1)
 | 0,i,o,p,a,b=>by simp [a_]
 | k+1,i,o,p,a,b=>by
   rw[a_]
   cases decide (IntKind.i64.wrap ((l.g i).aq+1)<a) with
   | true=>
     have:=jw l k (i+1) (o++[l.g i]) p a b
     rw[List.length_append,List.length_cons,List.length_nil] at this
     simp only[ak];omega
   | false=>
     cases decide (IntKind.i64.wrap (b+1)<(l.g i).ay) with
     | false=>
       have:=jw l k (i+1) o p (xB a (l.g i).ay) (imax b (l.g i).aq)
       simp only[aj];omega
     | true=>
       cases p with
       | false=>
         have:=jw l k (i+1) ((o++[(⟨a,b⟩:Span)])++[l.g i]) true a b
         simp only[List.length_append,List.length_cons,List.length_nil,ak] at this
         simp only[ak,aj,Bool.not_false];omega
       | true=>
         have:=jw l k (i+1) (o++[l.g i]) true a b
         simp only[List.length_append,List.length_cons,List.length_nil,ak] at this
         simp only[ak,aj,Bool.not_true];omega
theorem Ha (l:List Span) (x:Span):(jv l x).length≤l.length+1:=by
 have:=jw l l.length 0 [] false x.ay x.aq
 rw[jv]
 cases h:(a_ l l.length 0 ([]:List Span) false x.ay x.aq).2.1<;>rw[h] at this<;>simp only[Bool.not_false,Bool.not_true,ak,aj,List.length_append,List.length_cons,List.length_nil] at this ⊢ <;>omega
theorem LU {n:Int} (h0:0≤n) (h:n≤8):0≤d_ .i64 1 n∧d_ .i64 1 n≤256:=by
 obtain ⟨k,rfl⟩:∃k:Nat,n=k:=⟨n.toNat,by omega⟩
 have hk:k≤8:=by omega
 have:∀k:Nat,k<9→0≤d_ .i64 1 (k:Nat)∧d_ .i64 1 (k:Nat)≤256:=by decide+kernel
 exact this k o!
theorem o7 (l:List aK) (q:aD) (s:Int):∀(k i:Nat) (v:List bC),v.length≤(dE l q s k i v).length
 | 0,_,_=>Nat.le_refl _
 | k+1,i,v=>by
   rw[dE]
   cases qA s (l.g i).aL with
   | true=>exact o7 l q s k (i+1) v
   | false=>exact Nat.le_trans (by rw[List.length_append];exact Nat.le_add_right _ _) (o7 l q s k (i+1) _)
theorem zo (q:aD) (l:List aK) (s:Int):0<(dK q l s).length:=Nat.lt_of_lt_of_le Nat.one_pos (o7 l q s l.length 0 [(⟨0,q.ai,q.af⟩:bC)])
def rZ:Code:=(Try.f31.body).getD .skip
theorem Hb:Try.f31.body=some rZ:=by kernel_rfl
def CA:Code:=(cc rZ).getD 0 .skip
def cr (q:aD) (l_:List aK) (t:Int):Nat→Nat→List Span→List Span
 | 0,_,iz=>iz
 | dQ+1,i0,iz=>(bif (decide (q.bad<(pY ((i0:Nat):Int)))) then cr q l_ t dQ (i0+1) iz else (bif (jI q (dK q l_ ((i0:Nat):Int))) then cr q l_ t dQ (i0+1) (jv iz (mz q (dK q l_ ((i0:Nat):Int)) t)) else cr q l_ t dQ (i0+1) iz))
theorem kZ {d:Nat} {h:aA} (bJ:AV) (t:Int) (q:aD) (l_:List aK) (bL:Nat) (bF:aY h bJ l_) (eZ:q.name.length<2^60) (iy:aY h q.az q.aC) (kG:aF.ok h q) (nv:∀i,i<l_.length→0≤(l_.g i).aL∧(l_.g i).aL<(q.aC.length:Int)) (zm:l_.length≤64) (Tb:q.aC.length≤8) (bS:Tidy h) (pU:h.nx≤bL):∀(k_ i_:Nat) (iz:List Span) (rH:AV) (_:i_+k_=(d_ .i64 1 ((q.aC.length:Nat):Int)).toNat) (_:(List.length iz≤i_)) (x:Nat→AV) (hh:aA) (aQ:Tidy hh) (aW:Has h hh) (gQ:h.nx≤hh.nx) (bG:hh.get bL=some (aX.cells [(AV.str q.name),(Zi q.ai),(Zi q.af),(Zi q.aH),(Zi q.aI),(Zi q.bad),q.az] 26 false)) (qC:bH h hh rH iz) (mO:∀y∈iz,aF.ok hh y) (JI:iz.length≤i_) (eh:b6 rH bL),e_ (σ:=List Span) (ζ:=AV) (cz (d+2)) CA ⟨((x 0)::bJ::(Zi t)::(Pt bL)::rx x 4 3 (rH::(Zn i_)::rx x 9 28 [])),hh,[],.no⟩ (.exit 0) hh (fun r z y=>((y 0)::bJ::(Zi t)::(Pt bL)::rx y 4 3 (z::rx y 8 29 []))) (fun r z hk=>Has h hk∧hk.get bL=some (aX.cells [(AV.str q.name),(Zi q.ai),(Zi q.af),(Zi q.aH),(Zi q.aI),(Zi q.bad),q.az] 26 false)∧bH h hk z r∧(∀y∈r,aF.ok hk y)∧r.length≤(d_ .i64 1 ((q.aC.length:Nat):Int)).toNat∧b6 z bL∧(List.length r≤(d_ .i64 1 ((q.aC.length:Nat):Int)).toNat)) (cr q l_ t k_ i_ iz)
 | 0,i0,iz,rH,kY,Hc,x,hh,aQ,aW,gQ,bG,qC,mO,JI,eh=>by
   have eR:=bF.small
   have mK:=iy.small
   have pS:=aQ _ _ bG
   have sb_:=LU (n:=(q.aC.length:Int)) o! o!
   have Tc:aY hh rH iz:=bH.rows qC o! mO
   have ja:dy (some (.slice 45)) (some q.az)=some (Zn q.aC.length):=iy.len
   have u2:cy env .shl 3 true false (some (Zi 1)) (some (Zn q.aC.length))=some (Zi (d_ .i64 1 ((q.aC.length:Nat):Int))):=qz 3 true false .i64 .i64 o!
   have q3:(decide (((i0:Nat):Int)<(d_ .i64 1 ((q.aC.length:Nat):Int))))=false:=d!
   exact e_.out iz rH rfl (pk (d+2) _ _ hh _ hh (CN 2<|MM (aO 24 6 q.az bG k!)<|VV ja<|VV u2<|VV (bK 3 false false .i64 ((i0:Nat):Int) (d_ .i64 1 ((q.aC.length:Nat):Int)))<|BB q3<|ZZ) k!) aQ o! ⟨aW,bG,qC,mO,(by first | omega | (simp<;>omega)),eh,(show (List.length iz≤(d_ .i64 1 ((q.aC.length:Nat):Int)).toNat) from (by first | omega | exact Nat.le_refl _))⟩ k!
 | dQ+1,i0,iz,rH,kY,Hc,x,hh,aQ,aW,gQ,bG,qC,mO,JI,eh=>by
   have eR:=bF.small
   have mK:=iy.small
   have pS:=aQ _ _ bG
   have sb_:=LU (n:=(q.aC.length:Int)) o! o!
   have Tc:aY hh rH iz:=bH.rows qC o! mO
   have ja:dy (some (.slice 45)) (some q.az)=some (Zn q.aC.length):=iy.len
   have u2:cy env .shl 3 true false (some (Zi 1)) (some (Zn q.aC.length))=some (Zi (d_ .i64 1 ((q.aC.length:Nat):Int))):=qz 3 true false .i64 .i64 o!
   have q3:(decide (((i0:Nat):Int)<(d_ .i64 1 ((q.aC.length:Nat):Int))))=true:=d!
   have k4:=Ta (d:=d+1) ((i0:Nat):Int) aQ
   rcases bZq (decide (q.bad<(pY ((i0:Nat):Int)))) with f1 | f1
   · have ic:=of_decide_eq_true f1
     have u6:=fu 3 false true i0 1 o!
     exact e_.round (by simp only[cr,f1,ak,aj]) (pk (d+2) _ _ hh _ hh (CN 2<|MM (aO 24 6 q.az bG k!)<|VV ja<|VV u2<|VV (bK 3 false false .i64 ((i0:Nat):Int) (d_ .i64 1 ((q.aC.length:Nat):Int)))<|BB q3<|CN 2<|MM (aO 3 5 (Zi q.bad) bG k!)<|EE k4<|VV (cI 3 false false .i64 (pY ((i0:Nat):Int)) q.bad)<|HH (aO 3 5 (Zi q.bad) bG k!)<|HH (show AV.same 20 (Zi q.bad) (Zi q.bad)=true from aJ 19 _ _)<|HH (aO 3 5 (Zi q.bad) bG k!)<|HH (show AV.same 20 (Zi q.bad) (Zi q.bad)=true from aJ 19 _ _)<|BC f1<|VV u6<|CC<|ZZ) k!) o! _ k! (fun x=>kZ bJ t q l_ bL bF eZ iy kG nv zm Tb bS pU dQ (i0+1) iz rH o! (show (List.length iz≤(i0+1)) from (by first | omega | exact Nat.le_refl _)) x hh aQ aW o! bG qC mO (by first | omega | (simp<;>omega)) eh)
   · have ic:=of_decide_eq_false f1
     obtain ⟨z6,h8,adl,Hd,fz7,aim⟩:=PB (d:=d) q l_ ((i0:Nat):Int) (aF.mono aW kG) (bF.has aW) (by first | omega | assumption | (simp only[List.length_set,List.length_replicate,List.length_append,List.length_cons,List.length_nil,List.nil_append]<;>omega) | (rw[List.length_take];omega)) (by first | omega | assumption | (simp only[List.length_set,List.length_replicate,List.length_append,List.length_cons,List.length_nil,List.nil_append]<;>omega) | (rw[List.length_take];omega)) aQ
     have uS:=Hd.y
     have PD:hh.nx≤h8.nx:=Hd.n
     have qE:Has h h8:=aW.trans Hd.a
     have He:Has hh h8:=Hd.a
     have ahC:=fz7.small
     have ahD:=zo q l_ ((i0:Nat):Int)
     have k9:=EY (d:=d) q (dK q l_ ((i0:Nat):Int)) (aF.mono qE kG) fz7 uS
     rcases bZq (jI q (dK q l_ ((i0:Nat):Int))) with f2 | f2
     · have Sx:=aae (d:=d) q (dK q l_ ((i0:Nat):Int)) t (aF.mono qE kG) fz7 (by first | omega | assumption | (simp only[List.length_set,List.length_replicate,List.length_append,List.length_cons,List.length_nil,List.nil_append]<;>omega) | (rw[List.length_take];omega)) uS
       obtain ⟨z12,G7,Td,E3,adm,Te⟩:=LN (d:=d+1) iz (mz q (dK q l_ ((i0:Nat):Int)) t) (Tc.has He) trivial (by first | omega | assumption | (simp only[List.length_set,List.length_replicate,List.length_append,List.length_cons,List.length_nil,List.nil_append]<;>omega) | (rw[List.length_take];omega)) uS
       have ti:=E3.y
       have adn:h8.nx≤G7.nx:=E3.n
       have Cr:Has h G7:=qE.trans E3.a
       have JC:Has hh G7:=He.trans E3.a
       have ado:Has h8 G7:=E3.a
       have af5:=adm.small
       have af6:=Ha iz (mz q (dK q l_ ((i0:Nat):Int)) t)
       have u15:=fu 3 false true i0 1 o!
       exact e_.round (by simp only[cr,f1,f2,ak,aj]) (pk (d+2) _ _ hh _ G7 (CN 2<|MM (aO 24 6 q.az bG k!)<|VV ja<|VV u2<|VV (bK 3 false false .i64 ((i0:Nat):Int) (d_ .i64 1 ((q.aC.length:Nat):Int)))<|BB q3<|CN 2<|MM (aO 3 5 (Zi q.bad) bG k!)<|EE k4<|VV (cI 3 false false .i64 (pY ((i0:Nat):Int)) q.bad)<|HH (aO 3 5 (Zi q.bad) bG k!)<|HH (show AV.same 20 (Zi q.bad) (Zi q.bad)=true from aJ 19 _ _)<|HH (aO 3 5 (Zi q.bad) bG k!)<|HH (show AV.same 20 (Zi q.bad) (Zi q.bad)=true from aJ 19 _ _)<|BM f1 (aO 26 0 (AV.agg [(AV.str q.name),(Zi q.ai),(Zi q.af),(Zi q.aH),(Zi q.aI),(Zi q.bad),q.az]) bG k!)<|CN 2<|EE adl<|CC<|MM (aO 26 0 (AV.agg [(AV.str q.name),(Zi q.ai),(Zi q.af),(Zi q.aH),(Zi q.aI),(Zi q.bad),q.az]) (Hd.a _ _ bG) k!)<|CC<|EE k9<|BC f2<|MM (aO 26 0 (AV.agg [(AV.str q.name),(Zi q.ai),(Zi q.af),(Zi q.aH),(Zi q.aI),(Zi q.bad),q.az]) (Hd.a _ _ bG) k!)<|CN 2<|EE Sx<|EE Td<|CN 2<|VV u15<|CC<|ZZ) k!) o! _ k! (fun x=>kZ bJ t q l_ bL bF eZ iy kG nv zm Tb bS pU dQ (i0+1) (jv iz (mz q (dK q l_ ((i0:Nat):Int)) t)) z12 o! (show (List.length (jv iz (mz q (dK q l_ ((i0:Nat):Int)) t))≤(i0+1)) from (by first | omega | exact Nat.le_refl _)) x G7 ti Cr o! (E3.a _ _ (Hd.a _ _ bG)) (bH.le (h0:=h) Te o!) (adm.Va) (by first | omega | (simp<;>omega)) (by first | exact bH.afH Te o! | exact bH.SK ti Te o!))
     · have LA:=fu 3 false true i0 1 o!
       exact e_.round (by simp only[cr,f1,f2,ak,aj]) (pk (d+2) _ _ hh _ h8 (CN 2<|MM (aO 24 6 q.az bG k!)<|VV ja<|VV u2<|VV (bK 3 false false .i64 ((i0:Nat):Int) (d_ .i64 1 ((q.aC.length:Nat):Int)))<|BB q3<|CN 2<|MM (aO 3 5 (Zi q.bad) bG k!)<|EE k4<|VV (cI 3 false false .i64 (pY ((i0:Nat):Int)) q.bad)<|HH (aO 3 5 (Zi q.bad) bG k!)<|HH (show AV.same 20 (Zi q.bad) (Zi q.bad)=true from aJ 19 _ _)<|HH (aO 3 5 (Zi q.bad) bG k!)<|HH (show AV.same 20 (Zi q.bad) (Zi q.bad)=true from aJ 19 _ _)<|BM f1 (aO 26 0 (AV.agg [(AV.str q.name),(Zi q.ai),(Zi q.af),(Zi q.aH),(Zi q.aI),(Zi q.bad),q.az]) bG k!)<|CN 2<|EE adl<|CC<|MM (aO 26 0 (AV.agg [(AV.str q.name),(Zi q.ai),(Zi q.af),(Zi q.aH),(Zi q.aI),(Zi q.bad),q.az]) (Hd.a _ _ bG) k!)<|CC<|EE k9<|BC f2<|VV LA<|CC<|ZZ) k!) o! _ k! (fun x=>kZ bJ t q l_ bL bF eZ iy kG nv zm Tb bS pU dQ (i0+1) iz rH o! (show (List.length iz≤(i0+1)) from (by first | omega | exact Nat.le_refl _)) x h8 uS qE o! (Hd.a _ _ bG) (bH.has qC He) (eP (D:=Span) mO) (by first | omega | (simp<;>omega)) eh)
def cC (q:aD) (l_:List aK) (t:Int):List Span:=(cr q l_ t (d_ .i64 1 ((q.aC.length:Nat):Int)).toNat 0 ([]:List Span))
theorem Hf {d:Nat} {h:aA} {bJ:AV} (q:aD) (l_:List aK) (t:Int) (fB:aF.ok h q) (dR:aY h bJ l_) (pV:∀i,i<l_.length→0≤(l_.g i).aL∧(l_.g i).aL<(q.aC.length:Int)) (S9:l_.length≤64) (af7:q.aC.length≤8) (bS:Tidy h):∃z hk,cz (d+3) (.fn 31) [(AV.agg [(AV.str q.name),(Zi q.ai),(Zi q.af),(Zi q.aH),(Zi q.aI),(Zi q.bad),q.az]),bJ,(Zi t)] h= .ret z hk∧Grow h hk∧aY hk z (cC q l_ t)∧bH h hk z (cC q l_ t):=by
 have mL:=dR.small
 have hU:=fB.2.small
 obtain ⟨h1,cj,cg,iu,bf,cf⟩:=fY bS (aX.cells [(AV.str q.name),(Zi q.ai),(Zi q.af),(Zi q.aH),(Zi q.aI),(Zi q.bad),q.az] 26 false)
 have bA:Has h h1:=cf
 obtain ⟨NK,Qq,h3,fG,fA,qw,tp,tq,Tf,NR,af8,Qv,NS⟩:=kZ (d:=d) (h:=h) bJ t q l_ h.nx dR fB.1 fB.2 fB pV o! o! bS o! (d_ .i64 1 ((q.aC.length:Nat):Int)).toNat 0 ([]:List Span) AV.aP o! (show (List.length ([]:List Span)≤0) from (by first | omega | exact Nat.le_refl _)) (fun k_=>(((AV.agg [(AV.str q.name),(Zi q.ai),(Zi q.af),(Zi q.aH),(Zi q.aI),(Zi q.bad),q.az])::bJ::(Zi t)::(Pt h.nx)::AV.undef::AV.undef::AV.aP::AV.aP::(Zi 0)::iL 28):List AV).getD k_ AV.undef) h1 cg bA o! bf (.inl ⟨.inl rfl,rfl⟩) (fun y hy=>by cases hy) (Nat.zero_le _) (b6.nil _)
 have af9:=LU (n:=(q.aC.length:Int)) o! o!
 have aaz:aY h3 NK (cr q l_ t (d_ .i64 1 ((q.aC.length:Nat):Int)).toNat 0 ([]:List Span)):=bH.rows Tf o! NR
 have aeS:=aaz.small
 have fl:Has h h3:=tp
 have e:cC q l_ t=(cr q l_ t (d_ .i64 1 ((q.aC.length:Nat):Int)).toNat 0 ([]:List Span)):=by simp only[cC,ak,aj]
 rw[e]
 have oz:=bH.le (h0:=h) Tf o!
 exact ⟨NK,jj rfl (ba Try.func31 Hb rfl (.inr rfl) (pk (d+2) _ _ h _ h3 (NN cj (fun i=>(Pt i))<|CN 3<|LL fG<|CN 2<|ZZ) k!) k!) bS ⟨fA,fl,by omega⟩ (P:=fun hh=>aY hh NK (cr q l_ t (d_ .i64 1 ((q.aC.length:Nat):Int)).toNat 0 ([]:List Span))∧bH h hh NK (cr q l_ t (d_ .i64 1 ((q.aC.length:Nat):Int)).toNat 0 ([]:List Span))) ⟨bH.rows oz (by first | omega | decide) NR,oz⟩ fun v=>⟨bH.B' oz v,bH.Cp oz v⟩⟩
def uT (l:List Span) (x:Int):Prop:=∃s∈l,s.ay≤x∧x≤s.aq
inductive Canon:List Span→Prop
 | nil:Canon []
 | one (s:Span):s.ay≤s.aq→Canon [s]
 | cons (s r:Span) (l:List Span):s.ay≤s.aq→s.aq+1<r.ay→Canon (r::l)→Canon (s::r::l)
theorem Canon.tail {s:Span} {l:List Span} (c:Canon (s::l)):Canon l:=by
 cases c with
 | one=>exact .nil
 | cons _ _ _ _ _ c=>exact c
theorem Canon.head {s:Span} {l:List Span} (c:Canon (s::l)):s.ay≤s.aq:=by cases c<;>assumption
theorem Canon.beyond {l:List Span}:∀{s:Span},Canon (s::l)→∀r∈l,s.aq+1<r.ay:=by
 induction l with
 | nil=>intro s _ r hr;cases hr
 | cons a l ih=>
   intro s c r hr
   cases c with
   | cons _ _ _ h1 h2 c=>
     rcases List.mem_cons.1 hr with rfl | hr
     · exact h2
     · have:=ih c r hr;have:=c.head;omega
theorem Canon.mk {s:Span} {l:List Span} (h:s.ay≤s.aq) (b:∀r∈l,s.aq+1<r.ay) (c:Canon l):Canon (s::l):=by
 cases l with
 | nil=>exact .one s h
 | cons a l=>exact .cons s a l h (b a (List.mem_cons_self ..)) c
theorem eS {s:Span} {l:List Span} {x:Int}:uT (s::l) x↔(s.ay≤x∧x≤s.aq)∨uT l x:=by
 constructor
 · rintro ⟨r,hr,h⟩
   rcases List.mem_cons.1 hr with rfl | hr
   · exact .inl h
   · exact .inr ⟨r,hr,h⟩
 · rintro (h | ⟨r,hr,h⟩)
   · exact ⟨s,List.mem_cons_self ..,h⟩
   · exact ⟨r,List.mem_cons_of_mem _ hr,h⟩
theorem xO {x:Int}:¬uT [] x:=by rintro ⟨_,h,_⟩;cases h
theorem Canon.ends {s:Span} {l:List Span} (c:Canon (s::l)):uT (s::l) s.ay∧uT (s::l) s.aq∧¬uT (s::l) (s.aq+1)∧∀x,x<s.ay→¬uT (s::l) x:=by
 have hh:=c.head
 have hb:=c.beyond
 refine ⟨eS.2 (.inl ⟨Int.le_refl _,hh⟩),eS.2 (.inl ⟨hh,Int.le_refl _⟩),fun h=>?_,fun x hx h=>?_⟩
 · rcases eS.1 h with h | ⟨r,hr,h⟩
   · omega
   · have:=hb r hr;omega
 · rcases eS.1 h with h | ⟨r,hr,h⟩
   · omega
   · have:=hb r hr;omega
theorem Tg {a b:Span} (h1:a.ay=b.ay) (h2:a.aq=b.aq):a=b:=by
 cases a;cases b;simp only at h1 h2;rw[h1,h2]
theorem CB:∀{l m:List Span},Canon l→Canon m→(∀x,uT l x↔uT m x)→l=m
 | [],[],_,_,_=>rfl
 | [],r::m,_,c,h=>absurd ((h r.ay).2 c.ends.1) xO
 | s::l,[],c,_,h=>absurd ((h s.ay).1 c.ends.1) xO
 | s::l,r::m,c,d,h=>by
   obtain ⟨c1,c2,c3,c4⟩:=c.ends
   obtain ⟨d1,d2,d3,d4⟩:=d.ends
   have lo:s.ay=r.ay:=by
    have a:¬s.ay<r.ay:=fun q=>d4 _ q ((h _).1 c1)
    have b:¬r.ay<s.ay:=fun q=>c4 _ q ((h _).2 d1)
    omega
   have hi:s.aq=r.aq:=by
    have hs:=c.head;have hr:=d.head
    have a:¬s.aq<r.aq:=fun q=>c3 ((h _).2 (eS.2 (.inl ⟨by omega,by omega⟩)))
    have b:¬r.aq<s.aq:=fun q=>d3 ((h _).1 (eS.2 (.inl ⟨by omega,by omega⟩)))
    omega
   have e:=Tg lo hi
   subst e
   rw[CB c.tail d.tail fun x=>?_]
   have hx:=h x
   rw[eS,eS] at hx
   have cb:=c.beyond;have db:=d.beyond
   constructor
   · intro q
     rcases hx.1 (.inr q) with w | w
     · obtain ⟨r,hr,w2⟩:=q;have:=cb r hr;omega
     · exact w
   · intro q
     rcases hx.2 (.inr q) with w | w
     · obtain ⟨r,hr,w2⟩:=q;have:=db r hr;omega
     · exact w
def NT:List Span→Int→Int→List Span
 | [],a,b=> [⟨a,b⟩]
 | s::R,a,b=>if s.aq+1<a then s::NT R a b else if b+1<s.ay then ⟨a,b⟩::s::R else NT R (min a s.ay) (max b s.aq)
theorem CD:∀{l:List Span} {a b:Int},Canon l→a≤b→Canon (NT l a b)∧(∀x,uT (NT l a b) x↔uT l x∨(a≤x∧x≤b))∧∀s∈NT l a b,a≤s.ay∨∃r∈l,r.ay≤s.ay
 | [],a,b,_,h=>by
   refine ⟨.one _ h,fun x=>?_,fun s hs=>?_⟩
   · rw[NT,eS];simp [xO]
   · rw[NT,List.mem_singleton] at hs;subst hs;exact .inl (Int.le_refl _)
 | s::R,a,b,c,h=>by
   have hs:=c.head;have hb:=c.beyond
   rw[NT]
   split
   · rename_i q
     obtain ⟨i1,i2,i3⟩:=CD (a:=a) (b:=b) c.tail h
     refine ⟨Canon.mk hs (fun r hr=>?_) i1,fun x=>?_,fun r hr=>?_⟩
     · rcases i3 r hr with w | ⟨r',Ic,w⟩
       · omega
       · have:=hb r' Ic;omega
     · rw[eS,i2,eS,or_assoc]
     · rcases List.mem_cons.1 hr with rfl | hr
       · exact .inr ⟨r,List.mem_cons_self ..,Int.le_refl _⟩
       · rcases i3 r hr with w | ⟨r',Ic,w⟩
         · exact .inl w
         · exact .inr ⟨r',List.mem_cons_of_mem _ Ic,w⟩
   · split
     · rename_i q1 q2
       refine ⟨.cons _ _ _ h q2 c,fun x=>?_,fun r hr=>?_⟩
       · rw[eS];exact Or.comm
       · rcases List.mem_cons.1 hr with rfl | hr
         · exact .inl (Int.le_refl _)
         · exact .inr ⟨r,hr,Int.le_refl _⟩
     · rename_i q1 q2
       obtain ⟨i1,i2,i3⟩:=CD (l:=R) (a:=min a s.ay) (b:=max b s.aq) c.tail o!
       refine ⟨i1,fun x=>?_,fun r hr=>?_⟩
       · rw[i2,eS]
         constructor
         · rintro (w | w)
           · exact .inl (.inr w)
           · by_cases e:a≤x∧x≤b
             · exact .inr e
             · exact .inl (.inl ⟨by omega,by omega⟩)
         · rintro ((w | w) | w)
           · exact .inr ⟨by omega,by omega⟩
           · exact .inl w
           · exact .inr ⟨by omega,by omega⟩
       · rcases i3 r hr with w | ⟨r',Ic,w⟩
         · by_cases e:a≤s.ay
           · exact .inl o!
           · exact .inr ⟨s,List.mem_cons_self ..,by omega⟩
         · exact .inr ⟨r',List.mem_cons_of_mem _ Ic,w⟩
def Qw:Span→List Span→List Span
 | c,[]=> [c]
 | c,s::R=>if s.ay≤c.aq+1 then Qw ⟨c.ay,max c.aq s.aq⟩ R else c::Qw s R
theorem CE:∀{l:List Span} {c:Span},c.ay≤c.aq→(∀s∈l,s.ay≤s.aq)→(∀s∈l,c.ay≤s.ay)→List.Pairwise (fun s r:Span=>s.ay≤r.ay) l→
 Canon (Qw c l)∧(∀x,uT (Qw c l) x↔(c.ay≤x∧x≤c.aq)∨uT l x)∧∀s∈Qw c l,c.ay≤s.ay
 | [],c,h,_,_,_=>by
   refine ⟨.one _ h,fun x=>?_,fun s hs=>?_⟩
   · rw[Qw,eS]
   · rw[Qw,List.mem_singleton] at hs;subst hs;exact Int.le_refl _
 | s::R,c,h,hn,hc,hp=>by
   have h1:=hn s (List.mem_cons_self ..);have h2:=hc s (List.mem_cons_self ..)
   obtain ⟨p1,p2⟩:=List.pairwise_cons.1 hp
   rw[Qw]
   split
   · rename_i q
     obtain ⟨i1,i2,i3⟩:=CE (l:=R) (c:=⟨c.ay,max c.aq s.aq⟩) (by show c.ay≤max c.aq s.aq;omega) (fun r hr=>hn r (List.mem_cons_of_mem _ hr)) (fun r hr=>hc r (List.mem_cons_of_mem _ hr)) p2
     refine ⟨i1,fun x=>?_,i3⟩
     rw[i2,eS]
     show (c.ay≤x∧x≤max c.aq s.aq)∨uT R x↔_
     constructor
     · rintro (w | w)
       · by_cases e:x≤c.aq
         · exact .inl ⟨w.1,e⟩
         · exact .inr (.inl ⟨by omega,by omega⟩)
       · exact .inr (.inr w)
     · rintro (w | w | w)
       · exact .inl ⟨w.1,by omega⟩
       · exact .inl ⟨by omega,by omega⟩
       · exact .inr w
   · rename_i q
     obtain ⟨i1,i2,i3⟩:=CE (l:=R) (c:=s) h1 (fun r hr=>hn r (List.mem_cons_of_mem _ hr)) p1 p2
     refine ⟨Canon.mk h (fun r hr=>?_) i1,fun x=>?_,fun r hr=>?_⟩
     · have:=i3 r hr;omega
     · rw[eS,i2,eS]
     · rcases List.mem_cons.1 hr with rfl | hr
       · exact Int.le_refl _
       · have:=i3 r hr;omega
theorem ux (x y:Int):xB x y=min x y:=by unfold xB;split<;>omega
theorem rI (x y:Int):imax x y=max x y:=by unfold imax;split<;>omega
def Bd (s:Span):Prop:= -4611686018427387904≤s.ay∧s.ay≤4611686018427387904∧-4611686018427387904≤s.aq∧s.aq≤4611686018427387904
theorem LV {α:Type} [Inhabited α] {l:List α} {i:Nat} (h:i<l.length):l.drop i=l.g i::l.drop (i+1):=by
 rw[List.drop_eq_getElem_cons h,List.g,List.getD_eq_getElem?_getD,List.getElem?_eq_getElem h];rfl
theorem Th {l:List Span} {a b:Int}:∀(k i:Nat) (o:List Span),i+k=l.length→(∀s∈l.drop i,b+1<s.ay)→(∀s∈l.drop i,Bd s)→-4611686018427387904≤b→b≤4611686018427387904→a_ l k i o true a b=(o++l.drop i,true,a,b)
 | 0,i,o,h,_,_,_,_=>by rw[a_,List.drop_eq_nil_of_le o!,List.append_nil]
 | k+1,i,o,h,hb,hd,b1,b2=>by
   have e:=LV (l:=l) (i:=i) o!
   rw[e] at hb hd
   have ih:=Th (l:=l) (a:=a) (b:=b) k (i+1) (o++[l.g i]) o! (fun s hs=>hb s (List.mem_cons_of_mem _ hs)) (fun s hs=>hd s (List.mem_cons_of_mem _ hs)) b1 b2
   have h1:=hb _ (List.mem_cons_self ..)
   rw[a_,wrap_i64 (n:=b+1) o! o!,decide_eq_true h1,ih,e,List.append_assoc,List.singleton_append]
   cases decide (IntKind.i64.wrap ((l.g i).aq+1)<a)<;>rfl
def fin (r:List Span×Bool×Int×Int):List Span:=bif !r.2.1 then r.1++[(⟨r.2.2.1,r.2.2.2⟩:Span)] else r.1
theorem LW {l:List Span}:∀(k i:Nat) (o:List Span) (a b:Int),i+k=l.length→Canon (l.drop i)→(∀s∈l.drop i,Bd s)→a≤b→Bd ⟨a,b⟩→fin (a_ l k i o false a b)=o++NT (l.drop i) a b
 | 0,i,o,a,b,h,_,_,_,_=>by rw[a_,List.drop_eq_nil_of_le o!];rfl
 | k+1,i,o,a,b,h,hc,hd,hab,⟨b1,b2,b3,b4⟩=>by
   have e:=LV (l:=l) (i:=i) o!
   rw[e] at hc hd ⊢
   obtain ⟨d1,d2,d3,d4⟩:=hd _ (List.mem_cons_self ..)
   simp only at b1 b2 b3 b4
   rw[a_,wrap_i64 (n:=(l.g i).aq+1) o! o!,wrap_i64 (n:=b+1) o! o!,NT]
   by_cases q1:(l.g i).aq+1<a
   · rw[decide_eq_true q1,if_pos q1]
     show fin (a_ l k (i+1) (o++[l.g i]) false a b)=_
     rw[LW k (i+1) _ a b o! hc.tail (fun s hs=>hd s (List.mem_cons_of_mem _ hs)) hab ⟨b1,b2,b3,b4⟩,List.append_assoc,List.singleton_append]
   · rw[decide_eq_false q1,if_neg q1]
     by_cases q2:b+1<(l.g i).ay
     · rw[decide_eq_true q2,if_pos q2]
       show fin (a_ l k (i+1) ((o++[(⟨a,b⟩:Span)])++[l.g i]) true a b)=_
       have hh:=hc.head
       rw[Th k (i+1) _ o! (fun s hs=>by have:=hc.beyond s hs;omega) (fun s hs=>hd s (List.mem_cons_of_mem _ hs)) b3 b4]
       show ((o++[(⟨a,b⟩:Span)])++[l.g i])++l.drop (i+1)=_
       simp
     · rw[decide_eq_false q2,if_neg q2]
       show fin (a_ l k (i+1) o false (xB a (l.g i).ay) (imax b (l.g i).aq))=_
       rw[ux,rI]
       exact LW k (i+1) o _ _ o! hc.tail (fun s hs=>hd s (List.mem_cons_of_mem _ hs)) (by have:=hc.head;omega) ⟨by simp only;omega,by simp only;omega,by simp only;omega,by simp only;omega⟩
theorem PE {l:List Span} {x:Span} (hc:Canon l) (hd:∀s∈l,Bd s) (hx:x.ay≤x.aq) (hb:Bd x):jv l x=NT l x.ay x.aq:=by
 have h:=LW (l:=l) l.length 0 [] x.ay x.aq o! (by rw[List.drop_zero];exact hc) (by rw[List.drop_zero];exact hd) hx hb
 rw[List.drop_zero,List.nil_append] at h
 exact h
theorem LX:∀{l:List Span} {a b:Int},(∀s∈l,Bd s)→Bd ⟨a,b⟩→∀s∈NT l a b,Bd s
 | [],a,b,_,h,s,hs=>by rw[NT,List.mem_singleton] at hs;subst hs;exact h
 | r::R,a,b,hd,h,s,hs=>by
   have hr:=hd r (List.mem_cons_self ..);have hR:=fun q hq=>hd q (List.mem_cons_of_mem r hq)
   rw[NT] at hs
   split at hs
   · rcases List.mem_cons.1 hs with rfl | hs
     · exact hr
     · exact LX hR h s hs
   · split at hs
     · rcases List.mem_cons.1 hs with rfl | hs
       · exact h
       · exact hd s hs
     · obtain ⟨a1,a2,a3,a4⟩:=h;obtain ⟨c1,c2,c3,c4⟩:=hr
       simp only at a1 a2 a3 a4
       exact LX hR ⟨by simp only;omega,by simp only;omega,by simp only;omega,by simp only;omega⟩ s hs
def eY (f r:Int) (k:bC) (t:Int):Span:=if k.time≤t then ⟨k.aw - f*(t - k.time),k.ar+r*(t - k.time)⟩ else ⟨k.aw - r*(k.time - t),k.ar+f*(k.time - t)⟩
def KB (k:bC):Prop:=(0≤k.time∧k.time≤100000)∧-1000000000000≤k.aw∧k.aw≤1000000000000∧-1000000000000≤k.ar∧k.ar≤1000000000000
theorem iP {f x:Int} (h0:0≤f) (h1:f≤10000) (h2:0≤x) (h3:x≤100000):0≤f*x∧f*x≤1000000000:=by
 refine ⟨Int.mul_nonneg h0 h2,?_⟩
 calc f*x≤10000*x:=Int.mul_le_mul_of_nonneg_right h1 h2
  _≤1000000000:=by omega
theorem xP {q:aD} {k:bC} {t:Int} (f0:0≤q.aI) (f1:q.aI≤10000) (r0:0≤q.aH) (r1:q.aH≤10000) (hk:KB k) (t0:0≤t) (t1:t≤100000):cQ q k t=eY q.aI q.aH k t∧Bd (eY q.aI q.aH k t):=by
 obtain ⟨⟨a,b⟩,c,d,e,g⟩:=hk
 rw[cQ,eY]
 by_cases h:k.time≤t
 · obtain ⟨m1,m2⟩:=iP f0 f1 (x:=t - k.time) o! o!
   obtain ⟨m3,m4⟩:=iP r0 r1 (x:=t - k.time) o! o!
   rw[decide_eq_true h,if_pos h,ak,wrap_i64 (n:=t - k.time) o! o!,wrap_i64 (n:=q.aI*(t - k.time)) o! o!,wrap_i64 (n:=q.aH*(t - k.time)) o! o!,wrap_i64 (n:=k.aw - q.aI*(t - k.time)) o! o!,wrap_i64 (n:=k.ar+q.aH*(t - k.time)) o! o!]
   exact ⟨rfl,by simp only;omega,by simp only;omega,by simp only;omega,by simp only;omega⟩
 · obtain ⟨m1,m2⟩:=iP f0 f1 (x:=k.time - t) o! o!
   obtain ⟨m3,m4⟩:=iP r0 r1 (x:=k.time - t) o! o!
   rw[decide_eq_false h,if_neg h,aj,wrap_i64 (n:=k.time - t) o! o!,wrap_i64 (n:=q.aH*(k.time - t)) o! o!,wrap_i64 (n:=q.aI*(k.time - t)) o! o!,wrap_i64 (n:=k.aw - q.aH*(k.time - t)) o! o!,wrap_i64 (n:=k.ar+q.aI*(k.time - t)) o! o!]
   exact ⟨rfl,by simp only;omega,by simp only;omega,by simp only;omega,by simp only;omega⟩
def nV (f r:Int) (K:List bC):Prop:=∀i∈K,∀k∈K,max (eY f r i k.time).ay k.aw≤min (eY f r i k.time).aq k.ar
theorem CG {f r:Int} {K:List bC} (h:nV f r K) {i k:bC} (hi:i∈K) (hk:k∈K):(eY f r i k.time).ay≤k.ar∧k.aw≤(eY f r i k.time).aq∧k.aw≤k.ar:=by
 have:=h i hi k hk;omega
theorem CH {f r:Int} {K:List bC} (f0:0≤f) (r0:0≤r) (h:nV f r K) (t:Int) {i k:bC} (hi:i∈K) (hk:k∈K):(eY f r i t).ay≤(eY f r k t).aq:=by
 obtain ⟨a1,a2,a3⟩:=CG h hi hk
 obtain ⟨b1,b2,b3⟩:=CG h hk hi
 have M:∀(c x y:Int),0≤c→x≤y→c*x≤c*y:=fun c x y hc hx=>Int.mul_le_mul_of_nonneg_left hx hc
 unfold eY at a1 a2 b1 b2 ⊢
 split at a1<;>split at b1<;>split<;>split<;>simp only[Int.mul_sub] at * <;>first
  | omega
  | (have:=M f i.time k.time f0;have:=M f k.time i.time f0;have:=M r i.time k.time r0;have:=M r k.time i.time r0
     have:=M f i.time t f0;have:=M f t i.time f0;have:=M f k.time t f0;have:=M f t k.time f0
     have:=M r i.time t r0;have:=M r t i.time r0;have:=M r k.time t r0;have:=M r t k.time r0
     omega)
end
end Go.Proofs.aG
