import Derived.Test.YtmbkbhleedecdaaGreatDoorW0
import Derived.Test.YtmbkbhleedecdaaGreatDoorW10
import Derived.Test.YtmbkbhleedecdaaGreatDoorW8
import Derived.Test.YtmbkbhleedecdaaGreatDoorW5
namespace Go.Proofs.aM
open Go.Proofs Ab
noncomputable section
set_option maxRecDepth 100000
set_option maxHeartbeats 4000000
set_option linter.unusedVariables false
set_option linter.unusedSimpArgs false
def mK:Code:=(Tryz.f25.body).getD .skip
theorem Sk:Tryz.f25.body=some mK:=by kernel_rfl
def K4:Code:=(b5 mK).getD 0 .skip
def K5:Code:=(b5 mK).getD 1 .skip
def K6:Code:=(b5 mK).getD 2 .skip
def K7:Code:=(b5 mK).getD 3 .skip
def kZ (p:bO) (i0:Nat):Nat→Nat→List UInt8→List UInt8
 | 0,_,ij=>ij
 | xC+1,i1,ij=>kZ p i0 xC (i1+1) (((((((((ij++[103,97,117,103,101,32])++(((p.ab.g i0).ar.g i1).name))++[32])++(ay 20 ((p.ab.g i0).ar.g i1).acc))++[32])++(ay 20 ((p.ab.g i0).ar.g i1).aW))++[32])++(ay 20 ((p.ab.g i0).ar.g i1).since))++[10])
theorem zR {d:Nat} {h:ax} (i0:Nat) (p:bO) (f_:Nat) (lT:Nat) (iW:aJ h p.ae p.ab) (f':aJ h p.ag p.af) (oW:aJ h p.au p.ai) (Ga:((p.ab.g i0).name).length<2^60) (xW:aJ h (p.ab.g i0).aD (p.ab.g i0).ar) (xD:aH.ok h p) (R2:aH.ok h (p.ab.g i0)) (BW:i0<p.ab.length) (tJ:oY p) (ca:Tidy h) (Yb:h.nx≤f_) (Yc:h.nx≤lT) (KZ:lT≠f_):∀(k_ i_:Nat) (ij:List UInt8) (_:i_+k_=((p.ab.g i0).ar.length)) (_:(List.length ij≤3500*i0+301+301*i_)) (x:Nat→AV) (hh:ax) (aF:Tidy hh) (aG:Has h hh) (oM:h.nx≤hh.nx) (cI:hh.get f_=some (aK.cells [p.ae,p.ag,p.au] 26 false)) (mJ:hh.get lT=some (aK.cells [(AV.str (p.ab.g i0).name),(Zi (p.ab.g i0).aq),(Zi (p.ab.g i0).aj),(Zi (p.ab.g i0).aO),(Zi (p.ab.g i0).aR),(Zi (p.ab.g i0).bad),(p.ab.g i0).aD] 43 false)),gM (σ:=List UInt8) (ζ:=Unit) (cT (d+21)) K5 ⟨((x 0)::(Pt f_)::(x 2)::(AV.str ij)::(Zn i0)::(Pt lT)::(Zn i_)::rx x 7 163 []),hh,[],.no⟩ (.exit 2) hh (fun r z y=>((y 0)::(Pt f_)::(y 2)::(AV.str r)::(Zn i0)::(Pt lT)::rx y 6 164 [])) (fun r z hk=>Has h hk∧hk.get f_=some (aK.cells [p.ae,p.ag,p.au] 26 false)∧hk.get lT=some (aK.cells [(AV.str (p.ab.g i0).name),(Zi (p.ab.g i0).aq),(Zi (p.ab.g i0).aj),(Zi (p.ab.g i0).aO),(Zi (p.ab.g i0).aR),(Zi (p.ab.g i0).bad),(p.ab.g i0).aD] 43 false)∧(List.length r≤3500*i0+301+301*((p.ab.g i0).ar.length))) (kZ p i0 k_ i_ ij)
 | 0,i1,ij,jh,v7,x,hh,aF,aG,oM,cI,mJ=>by
   have oh:=iW.small
   have n_:=f'.small
   have ry:=oW.small
   have KT:=xW.small
   have yR:=aF _ _ cI
   have R3:=aF _ _ mJ
   have K0:=tJ.lens
   have Yd:=fun hj=>(tJ.az (j:=i0) hj).1
   have fg_:=fun hj hi=>tJ.IA (j:=i0) (i:=i1) hj hi
   have eb:cg (some (.slice 28)) (some (p.ab.g i0).aD)=some (Zn (p.ab.g i0).ar.length):=xW.len
   have q2:(decide (((i1:Nat):Int)<(((p.ab.g i0).ar.length:Nat):Int)))=false:=d!
   exact gM.out ij () rfl (pk (d+21) _ _ hh _ hh (CN 2<|MM (ao 41 6 (p.ab.g i0).aD mJ k!)<|VV eb<|VV (aY 3 false false .i64 ((i1:Nat):Int) (((p.ab.g i0).ar.length:Nat):Int))<|BB q2<|ZZ) k!) aF o! ⟨aG,cI,mJ,(show (List.length ij≤3500*i0+301+301*((p.ab.g i0).ar.length)) from (by first | omega | (simp only[List.length_append,List.length_nil,List.length_cons];omega)))⟩ k!
 | xC+1,i1,ij,jh,v7,x,hh,aF,aG,oM,cI,mJ=>by
   have oh:=iW.small
   have n_:=f'.small
   have ry:=oW.small
   have KT:=xW.small
   have yR:=aF _ _ cI
   have R3:=aF _ _ mJ
   have K0:=tJ.lens
   have Yd:=fun hj=>(tJ.az (j:=i0) hj).1
   have fg_:=fun hj hi=>tJ.IA (j:=i0) (i:=i1) hj hi
   have eb:cg (some (.slice 28)) (some (p.ab.g i0).aD)=some (Zn (p.ab.g i0).ar.length):=xW.len
   have q2:(decide (((i1:Nat):Int)<(((p.ab.g i0).ar.length:Nat):Int)))=true:=d!
   obtain ⟨p4,q5,iM⟩:=xW.elem (i:=i1) o!
   have mU:b8 env (some (.slice 28)) (some (p.ab.g i0).aD) (some (Zn i1))=some (AV.ptr p4 q5):=iM
   have mn:bS env hh 28 (AV.ptr p4 q5)=some (AV.agg [(AV.str ((p.ab.g i0).ar.g i1).name),(Zi ((p.ab.g i0).ar.g i1).acc),(Zi ((p.ab.g i0).ar.g i1).aW),(Zi ((p.ab.g i0).ar.g i1).since)]):=(xW.has aG).load o! iM
   obtain ⟨h7,K8,dK,xm,bG,nm⟩:=lk aF (aK.cells [(AV.str []),(Zi 0),(Zi 0),(Zi 0)] 28 false)
   have cK:Has h h7:=aG.trans nm
   have iG:Has hh h7:=nm
   obtain ⟨h8,F4,oH,UA,dj,jf⟩:=vF (t:=28) (n:=4) (i:=hh.nx) (L:=[(AV.str ((p.ab.g i0).ar.g i1).name),(Zi ((p.ab.g i0).ar.g i1).acc),(Zi ((p.ab.g i0).ar.g i1).aW),(Zi ((p.ab.g i0).ar.g i1).since)]) dK bG k! rfl rfl (by simp only[AV.cells,List.all_cons,List.all_nil,Bool.and_true,Bool.and_self,kC,iA,kD,kE,fY,nW,nX,nY,nZ,n4,kF])
   have xU:Has h h8:=Has.eB cK jf ca o!
   have Gm:Has hh h8:=Has.eB iG jf aF o!
   have u9:=gF 9 false true ij [103,97,117,103,101,32] (by first | omega | (simp only[List.length_append,List.length_cons,List.length_nil];omega) | (simp;omega))
   have zJ:=gF 9 false false (ij++[103,97,117,103,101,32]) ((p.ab.g i0).ar.g i1).name (by first | omega | (simp only[List.length_append,List.length_cons,List.length_nil];omega) | (simp;omega))
   have At:=gF 9 false true ((ij++[103,97,117,103,101,32])++(((p.ab.g i0).ar.g i1).name)) [32] (by first | omega | (simp only[List.length_append,List.length_cons,List.length_nil];omega) | (simp;omega))
   have Yk:(ay 20 ((p.ab.g i0).ar.g i1).acc).length≤20:=ch 20 ((p.ab.g i0).ar.g i1).acc
   have Jg:=ep (d:=d) ((p.ab.g i0).ar.g i1).acc (by first | omega | exact mc o! o! | (simp only[List.length_append,List.length_nil,List.length_cons];omega)) oH
   have Ul:=gF 9 false false (((ij++[103,97,117,103,101,32])++(((p.ab.g i0).ar.g i1).name))++[32]) (ay 20 ((p.ab.g i0).ar.g i1).acc) (by first | omega | (simp only[List.length_append,List.length_cons,List.length_nil];omega) | (simp;omega))
   have Dq:=gF 9 false true ((((ij++[103,97,117,103,101,32])++(((p.ab.g i0).ar.g i1).name))++[32])++(ay 20 ((p.ab.g i0).ar.g i1).acc)) [32] (by first | omega | (simp only[List.length_append,List.length_cons,List.length_nil];omega) | (simp;omega))
   have adq:(ay 20 ((p.ab.g i0).ar.g i1).aW).length≤20:=ch 20 ((p.ab.g i0).ar.g i1).aW
   have J':=ep (d:=d) ((p.ab.g i0).ar.g i1).aW (by first | omega | exact mc o! o! | (simp only[List.length_append,List.length_nil,List.length_cons];omega)) oH
   have u16:=gF 9 false false (((((ij++[103,97,117,103,101,32])++(((p.ab.g i0).ar.g i1).name))++[32])++(ay 20 ((p.ab.g i0).ar.g i1).acc))++[32]) (ay 20 ((p.ab.g i0).ar.g i1).aW) (by first | omega | (simp only[List.length_append,List.length_cons,List.length_nil];omega) | (simp;omega))
   have Kp:=gF 9 false true ((((((ij++[103,97,117,103,101,32])++(((p.ab.g i0).ar.g i1).name))++[32])++(ay 20 ((p.ab.g i0).ar.g i1).acc))++[32])++(ay 20 ((p.ab.g i0).ar.g i1).aW)) [32] (by first | omega | (simp only[List.length_append,List.length_cons,List.length_nil];omega) | (simp;omega))
   have adr:(ay 20 ((p.ab.g i0).ar.g i1).since).length≤20:=ch 20 ((p.ab.g i0).ar.g i1).since
   have Ql:=ep (d:=d) ((p.ab.g i0).ar.g i1).since (by first | omega | exact mc o! o! | (simp only[List.length_append,List.length_nil,List.length_cons];omega)) oH
   have u19:=gF 9 false false (((((((ij++[103,97,117,103,101,32])++(((p.ab.g i0).ar.g i1).name))++[32])++(ay 20 ((p.ab.g i0).ar.g i1).acc))++[32])++(ay 20 ((p.ab.g i0).ar.g i1).aW))++[32]) (ay 20 ((p.ab.g i0).ar.g i1).since) (by first | omega | (simp only[List.length_append,List.length_cons,List.length_nil];omega) | (simp;omega))
   have u20:=gF 9 false true ((((((((ij++[103,97,117,103,101,32])++(((p.ab.g i0).ar.g i1).name))++[32])++(ay 20 ((p.ab.g i0).ar.g i1).acc))++[32])++(ay 20 ((p.ab.g i0).ar.g i1).aW))++[32])++(ay 20 ((p.ab.g i0).ar.g i1).since)) [10] (by first | omega | (simp only[List.length_append,List.length_cons,List.length_nil];omega) | (simp;omega))
   have KF:=eZ 3 false true i1 1 o!
   exact gM.round (by simp only[kZ,ak,ah]) (pk (d+21) _ _ hh _ h8 (CN 2<|MM (ao 41 6 (p.ab.g i0).aD mJ k!)<|VV eb<|VV (aY 3 false false .i64 ((i1:Nat):Int) (((p.ab.g i0).ar.length:Nat):Int))<|BC q2<|MM (ao 41 6 (p.ab.g i0).aD mJ k!)<|CC<|VV mU<|MM mn<|NN K8 (fun i=>(Pt i))<|SS F4<|CC<|VV u9<|CC<|MM (ao 9 0 (AV.str ((p.ab.g i0).ar.g i1).name) dj k!)<|VV zJ<|VV At<|CC<|MM (ao 3 1 (Zi ((p.ab.g i0).ar.g i1).acc) dj k!)<|CC<|MM (ao 3 2 (Zi ((p.ab.g i0).ar.g i1).aW) dj k!)<|CC<|MM (ao 3 3 (Zi ((p.ab.g i0).ar.g i1).since) dj k!)<|EE Jg<|VV Ul<|VV Dq<|EE J'<|VV u16<|VV Kp<|EE Ql<|VV u19<|VV u20<|CC<|HH (ao 9 0 (AV.str ((p.ab.g i0).ar.g i1).name) dj k!)<|HH (show AV.same 20 (AV.str ((p.ab.g i0).ar.g i1).name) (AV.str ((p.ab.g i0).ar.g i1).name)=true from aP 19 _)<|HH (ao 9 0 (AV.str ((p.ab.g i0).ar.g i1).name) dj k!)<|HH (show AV.same 20 (AV.str ((p.ab.g i0).ar.g i1).name) (AV.str ((p.ab.g i0).ar.g i1).name)=true from aP 19 _)<|HH (ao 9 0 (AV.str ((p.ab.g i0).ar.g i1).name) dj k!)<|HH (show AV.same 20 (AV.str ((p.ab.g i0).ar.g i1).name) (AV.str ((p.ab.g i0).ar.g i1).name)=true from aP 19 _)<|HH (ao 9 0 (AV.str ((p.ab.g i0).ar.g i1).name) dj k!)<|HH (show AV.same 20 (AV.str ((p.ab.g i0).ar.g i1).name) (AV.str ((p.ab.g i0).ar.g i1).name)=true from aP 19 _)<|HH (ao 3 1 (Zi ((p.ab.g i0).ar.g i1).acc) dj k!)<|HH (show AV.same 20 (Zi ((p.ab.g i0).ar.g i1).acc) (Zi ((p.ab.g i0).ar.g i1).acc)=true from aC 19 _ _)<|HH (ao 3 2 (Zi ((p.ab.g i0).ar.g i1).aW) dj k!)<|HH (show AV.same 20 (Zi ((p.ab.g i0).ar.g i1).aW) (Zi ((p.ab.g i0).ar.g i1).aW)=true from aC 19 _ _)<|HH (ao 3 2 (Zi ((p.ab.g i0).ar.g i1).aW) dj k!)<|HH (show AV.same 20 (Zi ((p.ab.g i0).ar.g i1).aW) (Zi ((p.ab.g i0).ar.g i1).aW)=true from aC 19 _ _)<|HH (ao 3 3 (Zi ((p.ab.g i0).ar.g i1).since) dj k!)<|HH (show AV.same 20 (Zi ((p.ab.g i0).ar.g i1).since) (Zi ((p.ab.g i0).ar.g i1).since)=true from aC 19 _ _)<|HH (ao 3 3 (Zi ((p.ab.g i0).ar.g i1).since) dj k!)<|HH (show AV.same 20 (Zi ((p.ab.g i0).ar.g i1).since) (Zi ((p.ab.g i0).ar.g i1).since)=true from aC 19 _ _)<|HH (ao 3 3 (Zi ((p.ab.g i0).ar.g i1).since) dj k!)<|HH (show AV.same 20 (Zi ((p.ab.g i0).ar.g i1).since) (Zi ((p.ab.g i0).ar.g i1).since)=true from aC 19 _ _)<|CC<|VV KF<|CC<|ZZ) k!) o! _ k! (fun x=>zR i0 p f_ lT iW f' oW Ga xW xD R2 BW tJ ca Yb Yc KZ xC (i1+1) (((((((((ij++[103,97,117,103,101,32])++(((p.ab.g i0).ar.g i1).name))++[32])++(ay 20 ((p.ab.g i0).ar.g i1).acc))++[32])++(ay 20 ((p.ab.g i0).ar.g i1).aW))++[32])++(ay 20 ((p.ab.g i0).ar.g i1).since))++[10]) o! (show (List.length (((((((((ij++[103,97,117,103,101,32])++(((p.ab.g i0).ar.g i1).name))++[32])++(ay 20 ((p.ab.g i0).ar.g i1).acc))++[32])++(ay 20 ((p.ab.g i0).ar.g i1).aW))++[32])++(ay 20 ((p.ab.g i0).ar.g i1).since))++[10])≤3500*i0+301+301*(i1+1)) from (by first | omega | (simp only[List.length_append,List.length_nil,List.length_cons];omega))) x h8 oH xU o! (jf _ _ o! (nm _ _ cI)) (jf _ _ o! (nm _ _ mJ)))
def fS (p:bO):Nat→Nat→List UInt8→List UInt8
 | 0,_,eu=>eu
 | eC+1,i0,eu=>fS p eC (i0+1) (kZ p i0 (p.ab.g i0).ar.length 0 (((((((((((((eu++[113,117,97,110,116,105,116,121,32])++((p.ab.g i0).name))++[32])++(ay 20 (p.ab.g i0).aq))++[32])++(ay 20 (p.ab.g i0).aj))++[32])++(ay 20 (p.ab.g i0).aO))++[32])++(ay 20 (p.ab.g i0).aR))++[32])++(ay 20 (p.ab.g i0).bad))++[10]))
theorem zS {d:Nat} {h:ax} (p:bO) (da:Nat) (bh:aJ h p.ae p.ab) (di:aJ h p.ag p.af) (jR:aJ h p.au p.ai) (oa:aH.ok h p) (ma:oY p) (ca:Tidy h) (Yi:h.nx≤da):∀(k_ i_:Nat) (eu:List UInt8) (_:i_+k_=p.ab.length) (_:(List.length eu≤3500*i_)) (x:Nat→AV) (hh:ax) (aF:Tidy hh) (aG:Has h hh) (oM:h.nx≤hh.nx) (b6:hh.get da=some (aK.cells [p.ae,p.ag,p.au] 26 false)),gM (σ:=List UInt8) (ζ:=Unit) (cT (d+21)) K4 ⟨((x 0)::(Pt da)::(x 2)::(AV.str eu)::(Zn i_)::rx x 5 165 []),hh,[],.no⟩ (.exit 0) hh (fun r z y=>((y 0)::(Pt da)::(y 2)::(AV.str r)::rx y 4 166 [])) (fun r z hk=>Has h hk∧hk.get da=some (aK.cells [p.ae,p.ag,p.au] 26 false)∧(List.length r≤3500*p.ab.length)) (fS p k_ i_ eu)
 | 0,i0,eu,jh,v7,x,hh,aF,aG,oM,b6=>by
   have dp:=bh.small
   have gd:=di.small
   have og:=jR.small
   have te:=aF _ _ b6
   have K0:=ma.lens
   have Yd:=fun hj=>(ma.az (j:=i0) hj).1
   have eb:cg (some (.slice 43)) (some p.ae)=some (Zn p.ab.length):=bh.len
   have q2:(decide (((i0:Nat):Int)<((p.ab.length:Nat):Int)))=false:=d!
   exact gM.out eu () rfl (pk (d+21) _ _ hh _ hh (CN 2<|MM (ao 22 0 p.ae b6 k!)<|VV eb<|VV (aY 3 false false .i64 ((i0:Nat):Int) ((p.ab.length:Nat):Int))<|BB q2<|ZZ) k!) aF o! ⟨aG,b6,(show (List.length eu≤3500*p.ab.length) from (by first | omega | (simp only[List.length_append,List.length_nil,List.length_cons];omega)))⟩ k!
 | eC+1,i0,eu,jh,v7,x,hh,aF,aG,oM,b6=>by
   have dp:=bh.small
   have gd:=di.small
   have og:=jR.small
   have te:=aF _ _ b6
   have K0:=ma.lens
   have Yd:=fun hj=>(ma.az (j:=i0) hj).1
   have eb:cg (some (.slice 43)) (some p.ae)=some (Zn p.ab.length):=bh.len
   have q2:(decide (((i0:Nat):Int)<((p.ab.length:Nat):Int)))=true:=d!
   obtain ⟨p4,q5,iM⟩:=bh.elem (i:=i0) o!
   have mU:b8 env (some (.slice 43)) (some p.ae) (some (Zn i0))=some (AV.ptr p4 q5):=iM
   have mn:bS env hh 43 (AV.ptr p4 q5)=some (AV.agg [(AV.str (p.ab.g i0).name),(Zi (p.ab.g i0).aq),(Zi (p.ab.g i0).aj),(Zi (p.ab.g i0).aO),(Zi (p.ab.g i0).aR),(Zi (p.ab.g i0).bad),(p.ab.g i0).aD]):=(bh.has aG).load o! iM
   obtain ⟨h7,K8,dK,xm,bG,nm⟩:=lk aF (aK.cells [(AV.str []),(Zi 0),(Zi 0),(Zi 0),(Zi 0),(Zi 0),AV.aX] 43 false)
   have cK:Has h h7:=aG.trans nm
   have iG:Has hh h7:=nm
   have sc9:AV.scalar (p.ab.g i0).aD=true:=((bh.ok (i:=i0) o!).2).scalar
   obtain ⟨h8,F4,oH,UA,dj,jf⟩:=vF (t:=43) (n:=7) (i:=hh.nx) (L:=[(AV.str (p.ab.g i0).name),(Zi (p.ab.g i0).aq),(Zi (p.ab.g i0).aj),(Zi (p.ab.g i0).aO),(Zi (p.ab.g i0).aR),(Zi (p.ab.g i0).bad),(p.ab.g i0).aD]) dK bG k! rfl rfl (by simp only[AV.cells,List.all_cons,List.all_nil,Bool.and_true,Bool.and_self,kC,iA,kD,kE,fY,nW,nX,nY,nZ,n4,kF,sc9])
   have xU:Has h h8:=Has.eB cK jf ca o!
   have Gm:Has hh h8:=Has.eB iG jf aF o!
   have zJ:=gF 9 false true eu [113,117,97,110,116,105,116,121,32] (by first | omega | (simp only[List.length_append,List.length_cons,List.length_nil];omega) | (simp;omega))
   have At:=gF 9 false false (eu++[113,117,97,110,116,105,116,121,32]) (p.ab.g i0).name (by first | omega | (simp only[List.length_append,List.length_cons,List.length_nil];omega) | (simp;omega))
   have Uo:=gF 9 false true ((eu++[113,117,97,110,116,105,116,121,32])++((p.ab.g i0).name)) [32] (by first | omega | (simp only[List.length_append,List.length_cons,List.length_nil];omega) | (simp;omega))
   have Yl:(ay 20 (p.ab.g i0).aq).length≤20:=ch 20 (p.ab.g i0).aq
   have No:=ep (d:=d) (p.ab.g i0).aq (by first | omega | exact mc o! o! | (simp only[List.length_append,List.length_nil,List.length_cons];omega)) oH
   have Dq:=gF 9 false false (((eu++[113,117,97,110,116,105,116,121,32])++((p.ab.g i0).name))++[32]) (ay 20 (p.ab.g i0).aq) (by first | omega | (simp only[List.length_append,List.length_cons,List.length_nil];omega) | (simp;omega))
   have Qw:=gF 9 false true ((((eu++[113,117,97,110,116,105,116,121,32])++((p.ab.g i0).name))++[32])++(ay 20 (p.ab.g i0).aq)) [32] (by first | omega | (simp only[List.length_append,List.length_cons,List.length_nil];omega) | (simp;omega))
   have Yu:(ay 20 (p.ab.g i0).aj).length≤20:=ch 20 (p.ab.g i0).aj
   have Gs:=ep (d:=d) (p.ab.g i0).aj (by first | omega | exact mc o! o! | (simp only[List.length_append,List.length_nil,List.length_cons];omega)) oH
   have Kp:=gF 9 false false (((((eu++[113,117,97,110,116,105,116,121,32])++((p.ab.g i0).name))++[32])++(ay 20 (p.ab.g i0).aq))++[32]) (ay 20 (p.ab.g i0).aj) (by first | omega | (simp only[List.length_append,List.length_cons,List.length_nil];omega) | (simp;omega))
   have XO:=gF 9 false true ((((((eu++[113,117,97,110,116,105,116,121,32])++((p.ab.g i0).name))++[32])++(ay 20 (p.ab.g i0).aq))++[32])++(ay 20 (p.ab.g i0).aj)) [32] (by first | omega | (simp only[List.length_append,List.length_cons,List.length_nil];omega) | (simp;omega))
   have ads:(ay 20 (p.ab.g i0).aO).length≤20:=ch 20 (p.ab.g i0).aO
   have k19:=ep (d:=d) (p.ab.g i0).aO (by first | omega | exact mc o! o! | (simp only[List.length_append,List.length_nil,List.length_cons];omega)) oH
   have u20:=gF 9 false false (((((((eu++[113,117,97,110,116,105,116,121,32])++((p.ab.g i0).name))++[32])++(ay 20 (p.ab.g i0).aq))++[32])++(ay 20 (p.ab.g i0).aj))++[32]) (ay 20 (p.ab.g i0).aO) (by first | omega | (simp only[List.length_append,List.length_cons,List.length_nil];omega) | (simp;omega))
   have KF:=gF 9 false true ((((((((eu++[113,117,97,110,116,105,116,121,32])++((p.ab.g i0).name))++[32])++(ay 20 (p.ab.g i0).aq))++[32])++(ay 20 (p.ab.g i0).aj))++[32])++(ay 20 (p.ab.g i0).aO)) [32] (by first | omega | (simp only[List.length_append,List.length_cons,List.length_nil];omega) | (simp;omega))
   have adt:(ay 20 (p.ab.g i0).aR).length≤20:=ch 20 (p.ab.g i0).aR
   have Xo:=ep (d:=d) (p.ab.g i0).aR (by first | omega | exact mc o! o! | (simp only[List.length_append,List.length_nil,List.length_cons];omega)) oH
   have u23:=gF 9 false false (((((((((eu++[113,117,97,110,116,105,116,121,32])++((p.ab.g i0).name))++[32])++(ay 20 (p.ab.g i0).aq))++[32])++(ay 20 (p.ab.g i0).aj))++[32])++(ay 20 (p.ab.g i0).aO))++[32]) (ay 20 (p.ab.g i0).aR) (by first | omega | (simp only[List.length_append,List.length_cons,List.length_nil];omega) | (simp;omega))
   have u24:=gF 9 false true ((((((((((eu++[113,117,97,110,116,105,116,121,32])++((p.ab.g i0).name))++[32])++(ay 20 (p.ab.g i0).aq))++[32])++(ay 20 (p.ab.g i0).aj))++[32])++(ay 20 (p.ab.g i0).aO))++[32])++(ay 20 (p.ab.g i0).aR)) [32] (by first | omega | (simp only[List.length_append,List.length_cons,List.length_nil];omega) | (simp;omega))
   have adu:(ay 20 (p.ab.g i0).bad).length≤20:=ch 20 (p.ab.g i0).bad
   have k25:=ep (d:=d) (p.ab.g i0).bad (by first | omega | exact mc o! o! | (simp only[List.length_append,List.length_nil,List.length_cons];omega)) oH
   have u26:=gF 9 false false (((((((((((eu++[113,117,97,110,116,105,116,121,32])++((p.ab.g i0).name))++[32])++(ay 20 (p.ab.g i0).aq))++[32])++(ay 20 (p.ab.g i0).aj))++[32])++(ay 20 (p.ab.g i0).aO))++[32])++(ay 20 (p.ab.g i0).aR))++[32]) (ay 20 (p.ab.g i0).bad) (by first | omega | (simp only[List.length_append,List.length_cons,List.length_nil];omega) | (simp;omega))
   have u27:=gF 9 false true ((((((((((((eu++[113,117,97,110,116,105,116,121,32])++((p.ab.g i0).name))++[32])++(ay 20 (p.ab.g i0).aq))++[32])++(ay 20 (p.ab.g i0).aj))++[32])++(ay 20 (p.ab.g i0).aO))++[32])++(ay 20 (p.ab.g i0).aR))++[32])++(ay 20 (p.ab.g i0).bad)) [10] (by first | omega | (simp only[List.length_append,List.length_cons,List.length_nil];omega) | (simp;omega))
   obtain ⟨_,aes,h29,UY,abp,ad5,YD,UZ,abH,abq⟩:=zR (d:=d) (h:=h) i0 p da hh.nx bh di jR (bh.ok (i:=i0) o!).1 (bh.ok (i:=i0) o!).2 oa (bh.ok (i:=i0) o!) o! ma ca o! o! o! (p.ab.g i0).ar.length 0 (((((((((((((eu++[113,117,97,110,116,105,116,121,32])++((p.ab.g i0).name))++[32])++(ay 20 (p.ab.g i0).aq))++[32])++(ay 20 (p.ab.g i0).aj))++[32])++(ay 20 (p.ab.g i0).aO))++[32])++(ay 20 (p.ab.g i0).aR))++[32])++(ay 20 (p.ab.g i0).bad))++[10]) o! (show (List.length (((((((((((((eu++[113,117,97,110,116,105,116,121,32])++((p.ab.g i0).name))++[32])++(ay 20 (p.ab.g i0).aq))++[32])++(ay 20 (p.ab.g i0).aj))++[32])++(ay 20 (p.ab.g i0).aO))++[32])++(ay 20 (p.ab.g i0).aR))++[32])++(ay 20 (p.ab.g i0).bad))++[10])≤3500*i0+301+301*0) from (by first | omega | (simp only[List.length_append,List.length_nil,List.length_cons];omega))) (fun k_=>(((x 0)::(Pt da)::(x 2)::(AV.str (((((((((((((eu++[113,117,97,110,116,105,116,121,32])++((p.ab.g i0).name))++[32])++(ay 20 (p.ab.g i0).aq))++[32])++(ay 20 (p.ab.g i0).aj))++[32])++(ay 20 (p.ab.g i0).aO))++[32])++(ay 20 (p.ab.g i0).aR))++[32])++(ay 20 (p.ab.g i0).bad))++[10]))::(Zn i0)::(Pt hh.nx)::(Zi 0)::rx x 7 5 ((Zn i0)::(Pt da)::p.ae::(Zn p.ab.length)::(AV.bool (decide (((i0:Nat):Int)<((p.ab.length:Nat):Int))))::(x 17)::(x 18)::(Pt da)::p.ae::(Zn i0)::(AV.ptr p4 q5)::(AV.agg [(AV.str (p.ab.g i0).name),(Zi (p.ab.g i0).aq),(Zi (p.ab.g i0).aj),(Zi (p.ab.g i0).aO),(Zi (p.ab.g i0).aR),(Zi (p.ab.g i0).bad),(p.ab.g i0).aD])::(AV.str eu)::(AV.str (eu++[113,117,97,110,116,105,116,121,32]))::(Pt hh.nx)::(AV.str (p.ab.g i0).name)::(AV.str ((eu++[113,117,97,110,116,105,116,121,32])++((p.ab.g i0).name)))::(AV.str (((eu++[113,117,97,110,116,105,116,121,32])++((p.ab.g i0).name))++[32]))::(AV.ptr hh.nx 1)::(AV.ptr hh.nx 1)::(Zi (p.ab.g i0).aq)::(AV.str (ay 20 (p.ab.g i0).aq))::(AV.str ((((eu++[113,117,97,110,116,105,116,121,32])++((p.ab.g i0).name))++[32])++(ay 20 (p.ab.g i0).aq)))::(AV.str (((((eu++[113,117,97,110,116,105,116,121,32])++((p.ab.g i0).name))++[32])++(ay 20 (p.ab.g i0).aq))++[32]))::(AV.ptr hh.nx 1)::(AV.ptr hh.nx 2)::(Zi (p.ab.g i0).aj)::(AV.str (ay 20 (p.ab.g i0).aj))::(AV.str ((((((eu++[113,117,97,110,116,105,116,121,32])++((p.ab.g i0).name))++[32])++(ay 20 (p.ab.g i0).aq))++[32])++(ay 20 (p.ab.g i0).aj)))::(AV.str (((((((eu++[113,117,97,110,116,105,116,121,32])++((p.ab.g i0).name))++[32])++(ay 20 (p.ab.g i0).aq))++[32])++(ay 20 (p.ab.g i0).aj))++[32]))::(AV.ptr hh.nx 3)::(Zi (p.ab.g i0).aO)::(AV.str (ay 20 (p.ab.g i0).aO))::(AV.str ((((((((eu++[113,117,97,110,116,105,116,121,32])++((p.ab.g i0).name))++[32])++(ay 20 (p.ab.g i0).aq))++[32])++(ay 20 (p.ab.g i0).aj))++[32])++(ay 20 (p.ab.g i0).aO)))::(AV.str (((((((((eu++[113,117,97,110,116,105,116,121,32])++((p.ab.g i0).name))++[32])++(ay 20 (p.ab.g i0).aq))++[32])++(ay 20 (p.ab.g i0).aj))++[32])++(ay 20 (p.ab.g i0).aO))++[32]))::(AV.ptr hh.nx 4)::(Zi (p.ab.g i0).aR)::(AV.str (ay 20 (p.ab.g i0).aR))::(AV.str ((((((((((eu++[113,117,97,110,116,105,116,121,32])++((p.ab.g i0).name))++[32])++(ay 20 (p.ab.g i0).aq))++[32])++(ay 20 (p.ab.g i0).aj))++[32])++(ay 20 (p.ab.g i0).aO))++[32])++(ay 20 (p.ab.g i0).aR)))::(AV.str (((((((((((eu++[113,117,97,110,116,105,116,121,32])++((p.ab.g i0).name))++[32])++(ay 20 (p.ab.g i0).aq))++[32])++(ay 20 (p.ab.g i0).aj))++[32])++(ay 20 (p.ab.g i0).aO))++[32])++(ay 20 (p.ab.g i0).aR))++[32]))::(AV.ptr hh.nx 5)::(Zi (p.ab.g i0).bad)::(AV.str (ay 20 (p.ab.g i0).bad))::(AV.str ((((((((((((eu++[113,117,97,110,116,105,116,121,32])++((p.ab.g i0).name))++[32])++(ay 20 (p.ab.g i0).aq))++[32])++(ay 20 (p.ab.g i0).aj))++[32])++(ay 20 (p.ab.g i0).aO))++[32])++(ay 20 (p.ab.g i0).aR))++[32])++(ay 20 (p.ab.g i0).bad)))::(AV.str (((((((((((((eu++[113,117,97,110,116,105,116,121,32])++((p.ab.g i0).name))++[32])++(ay 20 (p.ab.g i0).aq))++[32])++(ay 20 (p.ab.g i0).aj))++[32])++(ay 20 (p.ab.g i0).aO))++[32])++(ay 20 (p.ab.g i0).aR))++[32])++(ay 20 (p.ab.g i0).bad))++[10]))::rx x 57 113 [])):List AV).getD k_ AV.undef) h8 oH xU o! (jf _ _ o! (nm _ _ b6)) dj
   have abr:Has h h29:=YD
   have u30:=eZ 3 false true i0 1 o!
   exact gM.round (by simp only[fS,ak,ah]) (pk (d+21) _ _ hh _ h29 (CN 2<|MM (ao 22 0 p.ae b6 k!)<|VV eb<|VV (aY 3 false false .i64 ((i0:Nat):Int) ((p.ab.length:Nat):Int))<|BC q2<|MM (ao 22 0 p.ae b6 k!)<|CC<|VV mU<|MM mn<|NN K8 (fun i=>(Pt i))<|SS F4<|CC<|VV zJ<|CC<|MM (ao 9 0 (AV.str (p.ab.g i0).name) dj k!)<|VV At<|VV Uo<|CN 2<|MM (ao 3 1 (Zi (p.ab.g i0).aq) dj k!)<|CN 2<|MM (ao 3 2 (Zi (p.ab.g i0).aj) dj k!)<|CC<|MM (ao 3 3 (Zi (p.ab.g i0).aO) dj k!)<|CC<|MM (ao 3 4 (Zi (p.ab.g i0).aR) dj k!)<|CC<|MM (ao 3 5 (Zi (p.ab.g i0).bad) dj k!)<|EE No<|VV Dq<|VV Qw<|EE Gs<|VV Kp<|VV XO<|EE k19<|VV u20<|VV KF<|EE Xo<|VV u23<|VV u24<|EE k25<|VV u26<|VV u27<|CC<|HH (ao 9 0 (AV.str (p.ab.g i0).name) dj k!)<|HH (show AV.same 20 (AV.str (p.ab.g i0).name) (AV.str (p.ab.g i0).name)=true from aP 19 _)<|HH (ao 9 0 (AV.str (p.ab.g i0).name) dj k!)<|HH (show AV.same 20 (AV.str (p.ab.g i0).name) (AV.str (p.ab.g i0).name)=true from aP 19 _)<|HH (ao 9 0 (AV.str (p.ab.g i0).name) dj k!)<|HH (show AV.same 20 (AV.str (p.ab.g i0).name) (AV.str (p.ab.g i0).name)=true from aP 19 _)<|HH (ao 9 0 (AV.str (p.ab.g i0).name) dj k!)<|HH (show AV.same 20 (AV.str (p.ab.g i0).name) (AV.str (p.ab.g i0).name)=true from aP 19 _)<|HH (ao 9 0 (AV.str (p.ab.g i0).name) dj k!)<|HH (show AV.same 20 (AV.str (p.ab.g i0).name) (AV.str (p.ab.g i0).name)=true from aP 19 _)<|HH (ao 9 0 (AV.str (p.ab.g i0).name) dj k!)<|HH (show AV.same 20 (AV.str (p.ab.g i0).name) (AV.str (p.ab.g i0).name)=true from aP 19 _)<|HH (ao 3 1 (Zi (p.ab.g i0).aq) dj k!)<|HH (show AV.same 20 (Zi (p.ab.g i0).aq) (Zi (p.ab.g i0).aq)=true from aC 19 _ _)<|HH (ao 3 2 (Zi (p.ab.g i0).aj) dj k!)<|HH (show AV.same 20 (Zi (p.ab.g i0).aj) (Zi (p.ab.g i0).aj)=true from aC 19 _ _)<|HH (ao 3 2 (Zi (p.ab.g i0).aj) dj k!)<|HH (show AV.same 20 (Zi (p.ab.g i0).aj) (Zi (p.ab.g i0).aj)=true from aC 19 _ _)<|HH (ao 3 3 (Zi (p.ab.g i0).aO) dj k!)<|HH (show AV.same 20 (Zi (p.ab.g i0).aO) (Zi (p.ab.g i0).aO)=true from aC 19 _ _)<|HH (ao 3 3 (Zi (p.ab.g i0).aO) dj k!)<|HH (show AV.same 20 (Zi (p.ab.g i0).aO) (Zi (p.ab.g i0).aO)=true from aC 19 _ _)<|HH (ao 3 3 (Zi (p.ab.g i0).aO) dj k!)<|HH (show AV.same 20 (Zi (p.ab.g i0).aO) (Zi (p.ab.g i0).aO)=true from aC 19 _ _)<|HH (ao 3 4 (Zi (p.ab.g i0).aR) dj k!)<|HH (show AV.same 20 (Zi (p.ab.g i0).aR) (Zi (p.ab.g i0).aR)=true from aC 19 _ _)<|HH (ao 3 4 (Zi (p.ab.g i0).aR) dj k!)<|HH (show AV.same 20 (Zi (p.ab.g i0).aR) (Zi (p.ab.g i0).aR)=true from aC 19 _ _)<|HH (ao 3 4 (Zi (p.ab.g i0).aR) dj k!)<|HH (show AV.same 20 (Zi (p.ab.g i0).aR) (Zi (p.ab.g i0).aR)=true from aC 19 _ _)<|HH (ao 3 4 (Zi (p.ab.g i0).aR) dj k!)<|HH (show AV.same 20 (Zi (p.ab.g i0).aR) (Zi (p.ab.g i0).aR)=true from aC 19 _ _)<|HH (ao 3 5 (Zi (p.ab.g i0).bad) dj k!)<|HH (show AV.same 20 (Zi (p.ab.g i0).bad) (Zi (p.ab.g i0).bad)=true from aC 19 _ _)<|HH (ao 3 5 (Zi (p.ab.g i0).bad) dj k!)<|HH (show AV.same 20 (Zi (p.ab.g i0).bad) (Zi (p.ab.g i0).bad)=true from aC 19 _ _)<|HH (ao 3 5 (Zi (p.ab.g i0).bad) dj k!)<|HH (show AV.same 20 (Zi (p.ab.g i0).bad) (Zi (p.ab.g i0).bad)=true from aC 19 _ _)<|HH (ao 3 5 (Zi (p.ab.g i0).bad) dj k!)<|HH (show AV.same 20 (Zi (p.ab.g i0).bad) (Zi (p.ab.g i0).bad)=true from aC 19 _ _)<|HH (ao 3 5 (Zi (p.ab.g i0).bad) dj k!)<|HH (show AV.same 20 (Zi (p.ab.g i0).bad) (Zi (p.ab.g i0).bad)=true from aC 19 _ _)<|CC<|LL UY<|CC<|VV u30<|CC<|ZZ) k!) o! _ k! (fun x=>zS p da bh di jR oa ma ca Yi eC (i0+1) (kZ p i0 (p.ab.g i0).ar.length 0 (((((((((((((eu++[113,117,97,110,116,105,116,121,32])++((p.ab.g i0).name))++[32])++(ay 20 (p.ab.g i0).aq))++[32])++(ay 20 (p.ab.g i0).aj))++[32])++(ay 20 (p.ab.g i0).aO))++[32])++(ay 20 (p.ab.g i0).aR))++[32])++(ay 20 (p.ab.g i0).bad))++[10])) o! (show (List.length (kZ p i0 (p.ab.g i0).ar.length 0 (((((((((((((eu++[113,117,97,110,116,105,116,121,32])++((p.ab.g i0).name))++[32])++(ay 20 (p.ab.g i0).aq))++[32])++(ay 20 (p.ab.g i0).aj))++[32])++(ay 20 (p.ab.g i0).aO))++[32])++(ay 20 (p.ab.g i0).aR))++[32])++(ay 20 (p.ab.g i0).bad))++[10]))≤3500*(i0+1)) from (by first | omega | (simp only[List.length_append,List.length_nil,List.length_cons];omega))) x h29 abp abr o! UZ)
def iP (p:bO):Nat→Nat→List UInt8→List UInt8
 | 0,_,nq=>nq
 | Kv+1,i2,nq=>iP p Kv (i2+1) (((((((((((nq++[109,101,97,115,117,114,101,32])++((p.af.g i2).name))++[32])++((p.af.g i2).ba))++[32])++(ay 20 (p.af.g i2).bx))++[32])++(ay 20 (p.af.g i2).eK))++[32])++(ay 20 (p.af.g i2).bm))++[10])
theorem zT {d:Nat} {h:ax} (p:bO) (lR:Nat) (th:aJ h p.ae p.ab) (mI:aJ h p.ag p.af) (qv:aJ h p.au p.ai) (Kw:aH.ok h p) (yZ:oY p) (ca:Tidy h) (Yp:h.nx≤lR):∀(k_ i_:Nat) (nq:List UInt8) (_:i_+k_=p.af.length) (_:(List.length nq≤3500*p.ab.length+301*i_)) (x:Nat→AV) (hh:ax) (aF:Tidy hh) (aG:Has h hh) (oM:h.nx≤hh.nx) (gn:hh.get lR=some (aK.cells [p.ae,p.ag,p.au] 26 false)),gM (σ:=List UInt8) (ζ:=Unit) (cT (d+21)) K6 ⟨((x 0)::(Pt lR)::(x 2)::(AV.str nq)::rx x 4 4 ((Zn i_)::rx x 9 161 [])),hh,[],.no⟩ (.exit 4) hh (fun r z y=>((y 0)::(Pt lR)::(y 2)::(AV.str r)::rx y 4 166 [])) (fun r z hk=>Has h hk∧hk.get lR=some (aK.cells [p.ae,p.ag,p.au] 26 false)∧(List.length r≤3500*p.ab.length+301*p.af.length)) (iP p k_ i_ nq)
 | 0,i2,nq,jh,v7,x,hh,aF,aG,oM,gn=>by
   have vQ:=th.small
   have vR:=mI.small
   have vS:=qv.small
   have Kx:=aF _ _ gn
   have K0:=yZ.lens
   have fm_:=fun hj=>yZ.measure (j:=i2) hj
   have eb:cg (some (.slice 45)) (some p.ag)=some (Zn p.af.length):=mI.len
   have q2:(decide (((i2:Nat):Int)<((p.af.length:Nat):Int)))=false:=d!
   exact gM.out nq () rfl (pk (d+21) _ _ hh _ hh (CN 2<|MM (ao 23 1 p.ag gn k!)<|VV eb<|VV (aY 3 false false .i64 ((i2:Nat):Int) ((p.af.length:Nat):Int))<|BB q2<|ZZ) k!) aF o! ⟨aG,gn,(show (List.length nq≤3500*p.ab.length+301*p.af.length) from (by first | omega | (simp only[List.length_append,List.length_nil,List.length_cons];omega)))⟩ k!
 | Kv+1,i2,nq,jh,v7,x,hh,aF,aG,oM,gn=>by
   have vQ:=th.small
   have vR:=mI.small
   have vS:=qv.small
   have Kx:=aF _ _ gn
   have K0:=yZ.lens
   have fm_:=fun hj=>yZ.measure (j:=i2) hj
   have eb:cg (some (.slice 45)) (some p.ag)=some (Zn p.af.length):=mI.len
   have q2:(decide (((i2:Nat):Int)<((p.af.length:Nat):Int)))=true:=d!
   obtain ⟨p4,q5,iM⟩:=mI.elem (i:=i2) o!
   have mU:b8 env (some (.slice 45)) (some p.ag) (some (Zn i2))=some (AV.ptr p4 q5):=iM
   have mn:bS env hh 45 (AV.ptr p4 q5)=some (AV.agg [(AV.str (p.af.g i2).name),(AV.str (p.af.g i2).ba),(Zi (p.af.g i2).bx),(Zi (p.af.g i2).eK),(Zi (p.af.g i2).bm)]):=(mI.has aG).load o! iM
   obtain ⟨h7,K8,dK,xm,bG,nm⟩:=lk aF (aK.cells [(AV.str []),(AV.str []),(Zi 0),(Zi 0),(Zi 0)] 45 false)
   have cK:Has h h7:=aG.trans nm
   have iG:Has hh h7:=nm
   obtain ⟨h8,F4,oH,UA,dj,jf⟩:=vF (t:=45) (n:=5) (i:=hh.nx) (L:=[(AV.str (p.af.g i2).name),(AV.str (p.af.g i2).ba),(Zi (p.af.g i2).bx),(Zi (p.af.g i2).eK),(Zi (p.af.g i2).bm)]) dK bG k! rfl rfl (by simp only[AV.cells,List.all_cons,List.all_nil,Bool.and_true,Bool.and_self,kC,iA,kD,kE,fY,nW,nX,nY,nZ,n4,kF])
   have xU:Has h h8:=Has.eB cK jf ca o!
   have Gm:Has hh h8:=Has.eB iG jf aF o!
   have u9:=gF 9 false true nq [109,101,97,115,117,114,101,32] (by first | omega | (simp only[List.length_append,List.length_cons,List.length_nil];omega) | (simp;omega))
   have zJ:=gF 9 false false (nq++[109,101,97,115,117,114,101,32]) (p.af.g i2).name (by first | omega | (simp only[List.length_append,List.length_cons,List.length_nil];omega) | (simp;omega))
   have At:=gF 9 false true ((nq++[109,101,97,115,117,114,101,32])++((p.af.g i2).name)) [32] (by first | omega | (simp only[List.length_append,List.length_cons,List.length_nil];omega) | (simp;omega))
   have Uo:=gF 9 false false (((nq++[109,101,97,115,117,114,101,32])++((p.af.g i2).name))++[32]) (p.af.g i2).ba (by first | omega | (simp only[List.length_append,List.length_cons,List.length_nil];omega) | (simp;omega))
   have Ul:=gF 9 false true ((((nq++[109,101,97,115,117,114,101,32])++((p.af.g i2).name))++[32])++((p.af.g i2).ba)) [32] (by first | omega | (simp only[List.length_append,List.length_cons,List.length_nil];omega) | (simp;omega))
   have adv:(ay 20 (p.af.g i2).bx).length≤20:=ch 20 (p.af.g i2).bx
   have Qk:=ep (d:=d) (p.af.g i2).bx (by first | omega | exact mc o! o! | (simp only[List.length_append,List.length_nil,List.length_cons];omega)) oH
   have Qw:=gF 9 false false (((((nq++[109,101,97,115,117,114,101,32])++((p.af.g i2).name))++[32])++((p.af.g i2).ba))++[32]) (ay 20 (p.af.g i2).bx) (by first | omega | (simp only[List.length_append,List.length_cons,List.length_nil];omega) | (simp;omega))
   have u16:=gF 9 false true ((((((nq++[109,101,97,115,117,114,101,32])++((p.af.g i2).name))++[32])++((p.af.g i2).ba))++[32])++(ay 20 (p.af.g i2).bx)) [32] (by first | omega | (simp only[List.length_append,List.length_cons,List.length_nil];omega) | (simp;omega))
   have Yv:(ay 20 (p.af.g i2).eK).length≤20:=ch 20 (p.af.g i2).eK
   have k17:=ep (d:=d) (p.af.g i2).eK (by first | omega | exact mc o! o! | (simp only[List.length_append,List.length_nil,List.length_cons];omega)) oH
   have XO:=gF 9 false false (((((((nq++[109,101,97,115,117,114,101,32])++((p.af.g i2).name))++[32])++((p.af.g i2).ba))++[32])++(ay 20 (p.af.g i2).bx))++[32]) (ay 20 (p.af.g i2).eK) (by first | omega | (simp only[List.length_append,List.length_cons,List.length_nil];omega) | (simp;omega))
   have u19:=gF 9 false true ((((((((nq++[109,101,97,115,117,114,101,32])++((p.af.g i2).name))++[32])++((p.af.g i2).ba))++[32])++(ay 20 (p.af.g i2).bx))++[32])++(ay 20 (p.af.g i2).eK)) [32] (by first | omega | (simp only[List.length_append,List.length_cons,List.length_nil];omega) | (simp;omega))
   have YE:(ay 20 (p.af.g i2).bm).length≤20:=ch 20 (p.af.g i2).bm
   have Xn:=ep (d:=d) (p.af.g i2).bm (by first | omega | exact mc o! o! | (simp only[List.length_append,List.length_nil,List.length_cons];omega)) oH
   have KF:=gF 9 false false (((((((((nq++[109,101,97,115,117,114,101,32])++((p.af.g i2).name))++[32])++((p.af.g i2).ba))++[32])++(ay 20 (p.af.g i2).bx))++[32])++(ay 20 (p.af.g i2).eK))++[32]) (ay 20 (p.af.g i2).bm) (by first | omega | (simp only[List.length_append,List.length_cons,List.length_nil];omega) | (simp;omega))
   have u22:=gF 9 false true ((((((((((nq++[109,101,97,115,117,114,101,32])++((p.af.g i2).name))++[32])++((p.af.g i2).ba))++[32])++(ay 20 (p.af.g i2).bx))++[32])++(ay 20 (p.af.g i2).eK))++[32])++(ay 20 (p.af.g i2).bm)) [10] (by first | omega | (simp only[List.length_append,List.length_cons,List.length_nil];omega) | (simp;omega))
   have u23:=eZ 3 false true i2 1 o!
   exact gM.round (by simp only[iP,ak,ah]) (pk (d+21) _ _ hh _ h8 (CN 2<|MM (ao 23 1 p.ag gn k!)<|VV eb<|VV (aY 3 false false .i64 ((i2:Nat):Int) ((p.af.length:Nat):Int))<|BC q2<|MM (ao 23 1 p.ag gn k!)<|CC<|VV mU<|MM mn<|NN K8 (fun i=>(Pt i))<|SS F4<|CC<|VV u9<|CC<|MM (ao 9 0 (AV.str (p.af.g i2).name) dj k!)<|VV zJ<|VV At<|CC<|MM (ao 9 1 (AV.str (p.af.g i2).ba) dj k!)<|VV Uo<|VV Ul<|CC<|MM (ao 3 2 (Zi (p.af.g i2).bx) dj k!)<|CC<|MM (ao 3 3 (Zi (p.af.g i2).eK) dj k!)<|CC<|MM (ao 3 4 (Zi (p.af.g i2).bm) dj k!)<|EE Qk<|VV Qw<|VV u16<|EE k17<|VV XO<|VV u19<|EE Xn<|VV KF<|VV u22<|CC<|HH (ao 9 0 (AV.str (p.af.g i2).name) dj k!)<|HH (show AV.same 20 (AV.str (p.af.g i2).name) (AV.str (p.af.g i2).name)=true from aP 19 _)<|HH (ao 9 0 (AV.str (p.af.g i2).name) dj k!)<|HH (show AV.same 20 (AV.str (p.af.g i2).name) (AV.str (p.af.g i2).name)=true from aP 19 _)<|HH (ao 9 0 (AV.str (p.af.g i2).name) dj k!)<|HH (show AV.same 20 (AV.str (p.af.g i2).name) (AV.str (p.af.g i2).name)=true from aP 19 _)<|HH (ao 9 0 (AV.str (p.af.g i2).name) dj k!)<|HH (show AV.same 20 (AV.str (p.af.g i2).name) (AV.str (p.af.g i2).name)=true from aP 19 _)<|HH (ao 9 1 (AV.str (p.af.g i2).ba) dj k!)<|HH (show AV.same 20 (AV.str (p.af.g i2).ba) (AV.str (p.af.g i2).ba)=true from aP 19 _)<|HH (ao 9 1 (AV.str (p.af.g i2).ba) dj k!)<|HH (show AV.same 20 (AV.str (p.af.g i2).ba) (AV.str (p.af.g i2).ba)=true from aP 19 _)<|HH (ao 9 1 (AV.str (p.af.g i2).ba) dj k!)<|HH (show AV.same 20 (AV.str (p.af.g i2).ba) (AV.str (p.af.g i2).ba)=true from aP 19 _)<|HH (ao 9 1 (AV.str (p.af.g i2).ba) dj k!)<|HH (show AV.same 20 (AV.str (p.af.g i2).ba) (AV.str (p.af.g i2).ba)=true from aP 19 _)<|HH (ao 3 2 (Zi (p.af.g i2).bx) dj k!)<|HH (show AV.same 20 (Zi (p.af.g i2).bx) (Zi (p.af.g i2).bx)=true from aC 19 _ _)<|HH (ao 3 3 (Zi (p.af.g i2).eK) dj k!)<|HH (show AV.same 20 (Zi (p.af.g i2).eK) (Zi (p.af.g i2).eK)=true from aC 19 _ _)<|HH (ao 3 3 (Zi (p.af.g i2).eK) dj k!)<|HH (show AV.same 20 (Zi (p.af.g i2).eK) (Zi (p.af.g i2).eK)=true from aC 19 _ _)<|HH (ao 3 4 (Zi (p.af.g i2).bm) dj k!)<|HH (show AV.same 20 (Zi (p.af.g i2).bm) (Zi (p.af.g i2).bm)=true from aC 19 _ _)<|HH (ao 3 4 (Zi (p.af.g i2).bm) dj k!)<|HH (show AV.same 20 (Zi (p.af.g i2).bm) (Zi (p.af.g i2).bm)=true from aC 19 _ _)<|HH (ao 3 4 (Zi (p.af.g i2).bm) dj k!)<|HH (show AV.same 20 (Zi (p.af.g i2).bm) (Zi (p.af.g i2).bm)=true from aC 19 _ _)<|CC<|VV u23<|CC<|ZZ) k!) o! _ k! (fun x=>zT p lR th mI qv Kw yZ ca Yp Kv (i2+1) (((((((((((nq++[109,101,97,115,117,114,101,32])++((p.af.g i2).name))++[32])++((p.af.g i2).ba))++[32])++(ay 20 (p.af.g i2).bx))++[32])++(ay 20 (p.af.g i2).eK))++[32])++(ay 20 (p.af.g i2).bm))++[10]) o! (show (List.length (((((((((((nq++[109,101,97,115,117,114,101,32])++((p.af.g i2).name))++[32])++((p.af.g i2).ba))++[32])++(ay 20 (p.af.g i2).bx))++[32])++(ay 20 (p.af.g i2).eK))++[32])++(ay 20 (p.af.g i2).bm))++[10])≤3500*p.ab.length+301*(i2+1)) from (by first | omega | (simp only[List.length_append,List.length_nil,List.length_cons];omega))) x h8 oH xU o! (jf _ _ o! (nm _ _ gn)))
def mg (p:bO):Nat→Nat→List UInt8→List UInt8
 | 0,_,o8=>o8
 | QG+1,i3,o8=>mg p QG (i3+1) (((((((((o8++[97,108,97,114,109,32])++((p.ab.g (p.ai.g i3).az.toNat).name))++[32])++(ay 20 (p.ai.g i3).level))++[32])++(ay 20 (p.ai.g i3).bq))++[32])++((p.af.g (p.ai.g i3).measure.toNat).name))++[10])
theorem zU {d:Nat} {h:ax} (p:bO) (oX:Nat) (uP:aJ h p.ae p.ab) (rZ:aJ h p.ag p.af) (pV:aJ h p.au p.ai) (Nx:aH.ok h p) (C3:oY p) (ca:Tidy h) (Yr:h.nx≤oX):∀(k_ i_:Nat) (o8:List UInt8) (_:i_+k_=p.ai.length) (_:(List.length o8≤3500*p.ab.length+301*p.af.length+301*i_)) (x:Nat→AV) (hh:ax) (aF:Tidy hh) (aG:Has h hh) (oM:h.nx≤hh.nx) (gL:hh.get oX=some (aK.cells [p.ae,p.ag,p.au] 26 false)),gM (σ:=List UInt8) (ζ:=Unit) (cT (d+21)) K7 ⟨((x 0)::(Pt oX)::(x 2)::(AV.str o8)::rx x 4 6 ((Zn i_)::rx x 11 159 [])),hh,[],.no⟩ (.exit 6) hh (fun r z y=>((y 0)::(Pt oX)::(y 2)::(AV.str r)::rx y 4 166 [])) (fun r z hk=>Has h hk∧hk.get oX=some (aK.cells [p.ae,p.ag,p.au] 26 false)∧(List.length r≤3500*p.ab.length+301*p.af.length+301*p.ai.length)) (mg p k_ i_ o8)
 | 0,i3,o8,jh,v7,x,hh,aF,aG,oM,gL=>by
   have BZ:=uP.small
   have B0:=rZ.small
   have B1:=pV.small
   have QH:=aF _ _ gL
   have K0:=C3.lens
   have fa_:=fun hj=>C3.IB (j:=i3) hj
   have eb:cg (some (.slice 71)) (some p.au)=some (Zn p.ai.length):=pV.len
   have q2:(decide (((i3:Nat):Int)<((p.ai.length:Nat):Int)))=false:=d!
   exact gM.out o8 () rfl (pk (d+21) _ _ hh _ hh (CN 2<|MM (ao 24 2 p.au gL k!)<|VV eb<|VV (aY 3 false false .i64 ((i3:Nat):Int) ((p.ai.length:Nat):Int))<|BB q2<|ZZ) k!) aF o! ⟨aG,gL,(show (List.length o8≤3500*p.ab.length+301*p.af.length+301*p.ai.length) from (by first | omega | (simp only[List.length_append,List.length_nil,List.length_cons];omega)))⟩ k!
 | QG+1,i3,o8,jh,v7,x,hh,aF,aG,oM,gL=>by
   have BZ:=uP.small
   have B0:=rZ.small
   have B1:=pV.small
   have QH:=aF _ _ gL
   have K0:=C3.lens
   have fa_:=fun hj=>C3.IB (j:=i3) hj
   have eb:cg (some (.slice 71)) (some p.au)=some (Zn p.ai.length):=pV.len
   have q2:(decide (((i3:Nat):Int)<((p.ai.length:Nat):Int)))=true:=d!
   obtain ⟨p4,q5,iM⟩:=pV.elem (i:=i3) o!
   have mU:b8 env (some (.slice 71)) (some p.au) (some (Zn i3))=some (AV.ptr p4 q5):=iM
   have mn:bS env hh 71 (AV.ptr p4 q5)=some (AV.agg [(Zi (p.ai.g i3).az),(Zi (p.ai.g i3).level),(Zi (p.ai.g i3).bq),(Zi (p.ai.g i3).measure)]):=(pV.has aG).load o! iM
   obtain ⟨h7,K8,dK,xm,bG,nm⟩:=lk aF (aK.cells [(Zi 0),(Zi 0),(Zi 0),(Zi 0)] 71 false)
   have cK:Has h h7:=aG.trans nm
   have iG:Has hh h7:=nm
   obtain ⟨h8,F4,oH,UA,dj,jf⟩:=vF (t:=71) (n:=4) (i:=hh.nx) (L:=[(Zi (p.ai.g i3).az),(Zi (p.ai.g i3).level),(Zi (p.ai.g i3).bq),(Zi (p.ai.g i3).measure)]) dK bG k! rfl rfl (by simp only[AV.cells,List.all_cons,List.all_nil,Bool.and_true,Bool.and_self,kC,iA,kD,kE,fY,nW,nX,nY,nZ,n4,kF])
   have xU:Has h h8:=Has.eB cK jf ca o!
   have Gm:Has hh h8:=Has.eB iG jf aF o!
   have u9:=gF 9 false true o8 [97,108,97,114,109,32] (by first | omega | (simp only[List.length_append,List.length_cons,List.length_nil];omega) | (simp;omega))
   obtain ⟨p11,q12,Wl⟩:=uP.elem (i:=((p.ai.g i3).az).toNat) o!
   have adw:b8 env (some (.slice 43)) (some p.ae) (some (Zi (p.ai.g i3).az))=some (AV.ptr p11 q12):=by rw[show (((p.ai.g i3).az):Int)=(((p.ai.g i3).az.toNat:Nat):Int) by omega];exact Wl
   have U0:bS env h8 9 (AV.ptr p11 (q12+0))=some (AV.str (p.ab.g (p.ai.g i3).az.toNat).name):=(uP.has xU).part (t:=9) (j:=0) o! Wl k! rfl
   have Dq:=gF 9 false false (o8++[97,108,97,114,109,32]) (p.ab.g (p.ai.g i3).az.toNat).name (by first | omega | (simp only[List.length_append,List.length_cons,List.length_nil];omega) | (simp;omega))
   have Qw:=gF 9 false true ((o8++[97,108,97,114,109,32])++((p.ab.g (p.ai.g i3).az.toNat).name)) [32] (by first | omega | (simp only[List.length_append,List.length_cons,List.length_nil];omega) | (simp;omega))
   obtain ⟨p17,q18,Wm⟩:=rZ.elem (i:=((p.ai.g i3).measure).toNat) o!
   have F0:b8 env (some (.slice 45)) (some p.ag) (some (Zi (p.ai.g i3).measure))=some (AV.ptr p17 q18):=by rw[show (((p.ai.g i3).measure):Int)=(((p.ai.g i3).measure.toNat:Nat):Int) by omega];exact Wm
   have U1:bS env h8 9 (AV.ptr p17 (q18+0))=some (AV.str (p.af.g (p.ai.g i3).measure.toNat).name):=(rZ.has xU).part (t:=9) (j:=0) o! Wm k! rfl
   have YE:(ay 20 (p.ai.g i3).level).length≤20:=ch 20 (p.ai.g i3).level
   have Xn:=ep (d:=d) (p.ai.g i3).level (by first | omega | exact mc o! o! | (simp only[List.length_append,List.length_nil,List.length_cons];omega)) oH
   have KF:=gF 9 false false (((o8++[97,108,97,114,109,32])++((p.ab.g (p.ai.g i3).az.toNat).name))++[32]) (ay 20 (p.ai.g i3).level) (by first | omega | (simp only[List.length_append,List.length_cons,List.length_nil];omega) | (simp;omega))
   have u22:=gF 9 false true ((((o8++[97,108,97,114,109,32])++((p.ab.g (p.ai.g i3).az.toNat).name))++[32])++(ay 20 (p.ai.g i3).level)) [32] (by first | omega | (simp only[List.length_append,List.length_cons,List.length_nil];omega) | (simp;omega))
   have adx:(ay 20 (p.ai.g i3).bq).length≤20:=ch 20 (p.ai.g i3).bq
   have Xp:=ep (d:=d) (p.ai.g i3).bq (by first | omega | exact mc o! o! | (simp only[List.length_append,List.length_nil,List.length_cons];omega)) oH
   have u24:=gF 9 false false (((((o8++[97,108,97,114,109,32])++((p.ab.g (p.ai.g i3).az.toNat).name))++[32])++(ay 20 (p.ai.g i3).level))++[32]) (ay 20 (p.ai.g i3).bq) (by first | omega | (simp only[List.length_append,List.length_cons,List.length_nil];omega) | (simp;omega))
   have u25:=gF 9 false true ((((((o8++[97,108,97,114,109,32])++((p.ab.g (p.ai.g i3).az.toNat).name))++[32])++(ay 20 (p.ai.g i3).level))++[32])++(ay 20 (p.ai.g i3).bq)) [32] (by first | omega | (simp only[List.length_append,List.length_cons,List.length_nil];omega) | (simp;omega))
   have u26:=gF 9 false false (((((((o8++[97,108,97,114,109,32])++((p.ab.g (p.ai.g i3).az.toNat).name))++[32])++(ay 20 (p.ai.g i3).level))++[32])++(ay 20 (p.ai.g i3).bq))++[32]) (p.af.g (p.ai.g i3).measure.toNat).name (by first | omega | (simp only[List.length_append,List.length_cons,List.length_nil];omega) | (simp;omega))
   have u27:=gF 9 false true ((((((((o8++[97,108,97,114,109,32])++((p.ab.g (p.ai.g i3).az.toNat).name))++[32])++(ay 20 (p.ai.g i3).level))++[32])++(ay 20 (p.ai.g i3).bq))++[32])++((p.af.g (p.ai.g i3).measure.toNat).name)) [10] (by first | omega | (simp only[List.length_append,List.length_cons,List.length_nil];omega) | (simp;omega))
   have c28:AV.same 20 p.ae p.ae=true:=uP.same 19
   have c29:AV.same 20 p.ag p.ag=true:=rZ.same 19
   have u30:=eZ 3 false true i3 1 o!
   exact gM.round (by simp only[mg,ak,ah]) (pk (d+21) _ _ hh _ h8 (CN 2<|MM (ao 24 2 p.au gL k!)<|VV eb<|VV (aY 3 false false .i64 ((i3:Nat):Int) ((p.ai.length:Nat):Int))<|BC q2<|MM (ao 24 2 p.au gL k!)<|CC<|VV mU<|MM mn<|NN K8 (fun i=>(Pt i))<|SS F4<|CC<|VV u9<|CC<|MM (ao 22 0 p.ae (jf _ _ o! (nm _ _ gL)) k!)<|CC<|MM (ao 3 0 (Zi (p.ai.g i3).az) dj k!)<|VV adw<|CC<|MM U0<|VV Dq<|VV Qw<|CC<|MM (ao 3 1 (Zi (p.ai.g i3).level) dj k!)<|CC<|MM (ao 3 2 (Zi (p.ai.g i3).bq) dj k!)<|CC<|MM (ao 23 1 p.ag (jf _ _ o! (nm _ _ gL)) k!)<|CC<|MM (ao 3 3 (Zi (p.ai.g i3).measure) dj k!)<|VV F0<|CC<|MM U1<|EE Xn<|VV KF<|VV u22<|EE Xp<|VV u24<|VV u25<|VV u26<|VV u27<|CC<|HH (ao 22 0 p.ae (jf _ _ o! (nm _ _ gL)) k!)<|HH c28<|HH (ao 22 0 p.ae (jf _ _ o! (nm _ _ gL)) k!)<|HH c28<|HH (ao 22 0 p.ae (jf _ _ o! (nm _ _ gL)) k!)<|HH c28<|HH (ao 3 0 (Zi (p.ai.g i3).az) dj k!)<|HH (show AV.same 20 (Zi (p.ai.g i3).az) (Zi (p.ai.g i3).az)=true from aC 19 _ _)<|HH (ao 3 0 (Zi (p.ai.g i3).az) dj k!)<|HH (show AV.same 20 (Zi (p.ai.g i3).az) (Zi (p.ai.g i3).az)=true from aC 19 _ _)<|HH (ao 3 0 (Zi (p.ai.g i3).az) dj k!)<|HH (show AV.same 20 (Zi (p.ai.g i3).az) (Zi (p.ai.g i3).az)=true from aC 19 _ _)<|HH U0<|HH (show AV.same 20 (AV.str (p.ab.g (p.ai.g i3).az.toNat).name) (AV.str (p.ab.g (p.ai.g i3).az.toNat).name)=true from aP 19 _)<|HH U0<|HH (show AV.same 20 (AV.str (p.ab.g (p.ai.g i3).az.toNat).name) (AV.str (p.ab.g (p.ai.g i3).az.toNat).name)=true from aP 19 _)<|HH U0<|HH (show AV.same 20 (AV.str (p.ab.g (p.ai.g i3).az.toNat).name) (AV.str (p.ab.g (p.ai.g i3).az.toNat).name)=true from aP 19 _)<|HH (ao 3 1 (Zi (p.ai.g i3).level) dj k!)<|HH (show AV.same 20 (Zi (p.ai.g i3).level) (Zi (p.ai.g i3).level)=true from aC 19 _ _)<|HH (ao 3 2 (Zi (p.ai.g i3).bq) dj k!)<|HH (show AV.same 20 (Zi (p.ai.g i3).bq) (Zi (p.ai.g i3).bq)=true from aC 19 _ _)<|HH (ao 3 2 (Zi (p.ai.g i3).bq) dj k!)<|HH (show AV.same 20 (Zi (p.ai.g i3).bq) (Zi (p.ai.g i3).bq)=true from aC 19 _ _)<|HH (ao 23 1 p.ag (jf _ _ o! (nm _ _ gL)) k!)<|HH c29<|HH (ao 23 1 p.ag (jf _ _ o! (nm _ _ gL)) k!)<|HH c29<|HH (ao 23 1 p.ag (jf _ _ o! (nm _ _ gL)) k!)<|HH c29<|HH (ao 3 3 (Zi (p.ai.g i3).measure) dj k!)<|HH (show AV.same 20 (Zi (p.ai.g i3).measure) (Zi (p.ai.g i3).measure)=true from aC 19 _ _)<|HH (ao 3 3 (Zi (p.ai.g i3).measure) dj k!)<|HH (show AV.same 20 (Zi (p.ai.g i3).measure) (Zi (p.ai.g i3).measure)=true from aC 19 _ _)<|HH (ao 3 3 (Zi (p.ai.g i3).measure) dj k!)<|HH (show AV.same 20 (Zi (p.ai.g i3).measure) (Zi (p.ai.g i3).measure)=true from aC 19 _ _)<|HH U1<|HH (show AV.same 20 (AV.str (p.af.g (p.ai.g i3).measure.toNat).name) (AV.str (p.af.g (p.ai.g i3).measure.toNat).name)=true from aP 19 _)<|HH U1<|HH (show AV.same 20 (AV.str (p.af.g (p.ai.g i3).measure.toNat).name) (AV.str (p.af.g (p.ai.g i3).measure.toNat).name)=true from aP 19 _)<|HH U1<|HH (show AV.same 20 (AV.str (p.af.g (p.ai.g i3).measure.toNat).name) (AV.str (p.af.g (p.ai.g i3).measure.toNat).name)=true from aP 19 _)<|CC<|VV u30<|CC<|ZZ) k!) o! _ k! (fun x=>zU p oX uP rZ pV Nx C3 ca Yr QG (i3+1) (((((((((o8++[97,108,97,114,109,32])++((p.ab.g (p.ai.g i3).az.toNat).name))++[32])++(ay 20 (p.ai.g i3).level))++[32])++(ay 20 (p.ai.g i3).bq))++[32])++((p.af.g (p.ai.g i3).measure.toNat).name))++[10]) o! (show (List.length (((((((((o8++[97,108,97,114,109,32])++((p.ab.g (p.ai.g i3).az.toNat).name))++[32])++(ay 20 (p.ai.g i3).level))++[32])++(ay 20 (p.ai.g i3).bq))++[32])++((p.af.g (p.ai.g i3).measure.toNat).name))++[10])≤3500*p.ab.length+301*p.af.length+301*(i3+1)) from (by first | omega | (simp only[List.length_append,List.length_nil,List.length_cons];omega))) x h8 oH xU o! (jf _ _ o! (nm _ _ gL)))
def pZ (p:bO):List UInt8:=(mg p p.ai.length 0 (iP p p.af.length 0 (fS p p.ab.length 0 ([]))))
theorem Sl {d:Nat} {h:ax} (p:bO) (dg:aH.ok h p) (Nv:oY p) (ca:Tidy h):cT (d+22) (.fn 25) [(AV.agg [p.ae,p.ag,p.au])] h= .ret (AV.str (pZ p)) h:=by
 have nj:=dg.1.small
 have jP:=dg.2.1.small
 have jQ:=dg.2.2.small
 obtain ⟨h1,br,cD,lh,aA,dC⟩:=lk ca (aK.cells [p.ae,p.ag,p.au] 26 false)
 have bB:Has h h1:=dC
 obtain ⟨_,N',h3,js,mR,Dn,abt,YF,abI⟩:=zS (d:=d) (h:=h) p h.nx dg.1 dg.2.1 dg.2.2 dg Nv ca o! p.ab.length 0 ([]) o! (show (List.length ([])≤3500*0) from (by first | omega | (simp only[List.length_append,List.length_nil,List.length_cons];omega))) (fun k_=>(((AV.agg [p.ae,p.ag,p.au])::(Pt h.nx)::(AV.str [])::(AV.str [])::(Zi 0)::jg 165):List AV).getD k_ AV.undef) h1 cD bB o! aA
 have gv:Has h h3:=abt
 obtain ⟨_,As,h5,eE,sS,Ad,abu,YG,abJ⟩:=zT (d:=d) (h:=h) p h.nx dg.1 dg.2.1 dg.2.2 dg Nv ca o! p.af.length 0 (fS p p.ab.length 0 ([])) o! (show (List.length (fS p p.ab.length 0 ([]))≤3500*p.ab.length+301*0) from (by first | omega | (simp only[List.length_append,List.length_nil,List.length_cons];omega))) (fun k_=>(((N' 0)::(Pt h.nx)::(N' 2)::(AV.str (fS p p.ab.length 0 ([])))::rx N' 4 4 ((Zi 0)::rx N' 9 161 [])):List AV).getD k_ AV.undef) h3 mR gv o! YF
 have lD:Has h h5:=abu
 obtain ⟨_,Jl,h7,mV,dK,XB,Sh,Gj,UU⟩:=zU (d:=d) (h:=h) p h.nx dg.1 dg.2.1 dg.2.2 dg Nv ca o! p.ai.length 0 (iP p p.af.length 0 (fS p p.ab.length 0 ([]))) o! (show (List.length (iP p p.af.length 0 (fS p p.ab.length 0 ([])))≤3500*p.ab.length+301*p.af.length+301*0) from (by first | omega | (simp only[List.length_append,List.length_nil,List.length_cons];omega))) (fun k_=>(((As 0)::(Pt h.nx)::(As 2)::(AV.str (iP p p.af.length 0 (fS p p.ab.length 0 ([]))))::rx As 4 6 ((Zi 0)::rx As 11 159 [])):List AV).getD k_ AV.undef) h5 sS lD o! YG
 have cK:Has h h7:=Sh
 have e:pZ p=(mg p p.ai.length 0 (iP p p.af.length 0 (fS p p.ab.length 0 ([])))):=by simp only[pZ,ak,ah]
 rw[e]
 exact aw rfl (aI Tryz.func25 Sk rfl (.inr rfl) (pk (d+21) _ _ h _ h7 (NN br (fun i=>(Pt i))<|CN 3<|LL js<|CC<|LL eE<|CC<|LL mV<|CN 2<|ZZ) k!) k!) cK rfl
def Gn:Code:=(Tryz.f7.body).getD .skip
theorem zc:Tryz.f7.body=some Gn:=by kernel_rfl
def cd (p:bO):List UInt8×Int:=(bif (!decide ((cG p)=0)) then ([],(cG p)) else (bif (decide (65536<((List.length (pZ p):Nat):Int))) then ([],3) else ((pZ p),0)))
theorem NX {d:Nat} {h:ax} (p:bO) (dg:aH.ok h p) (ca:Tidy h):cT (d+23) (.fn 7) [(AV.agg [p.ae,p.ag,p.au])] h= .ret (AV.tuple [(AV.str (cd p).1),(Zi (cd p).2)]) h:=by
 have nj:=dg.1.small
 have jP:=dg.2.1.small
 have jQ:=dg.2.2.small
 obtain ⟨h1,br,cD,lh,aA,dC⟩:=lk ca (aK.cells [p.ae,p.ag,p.au] 26 false)
 have bB:Has h h1:=dC
 have k2:=Eb (d:=d+18) p (aH.mono bB dg) cD
 rcases Bool.eq_false_or_eq_true (!decide ((cG p)=0)) with f0 | f0
 · have e_:=rO f0
   have e:cd p=([],(cG p)):=by simp only[cd,f0,ak,ah]
   rw[e]
   exact aw rfl (aI Tryz.func7 zc rfl (.inr rfl) (pk (d+22) _ _ h _ h1 (NN br (fun i=>(Pt i))<|CN 2<|MM (ao 26 0 (AV.agg [p.ae,p.ag,p.au]) aA k!)<|EE k2<|CN 2<|VV (cf 31 false true .i64 (cG p) 0)<|BB f0<|CN 3<|ZZ) k!) k!) bB rfl
 · have e_:=rP f0
   have k4:=Sl (d:=d) p (aH.mono bB dg) (by first | omega | exact tp ((B_ p).trans (by assumption))) cD
   rcases Bool.eq_false_or_eq_true (decide (65536<((List.length (pZ p):Nat):Int))) with f1 | f1
   · have fK:=of_decide_eq_true f1
     have e:cd p=([],3):=by simp only[cd,f0,f1,ak,ah]
     rw[e]
     exact aw rfl (aI Tryz.func7 zc rfl (.inr rfl) (pk (d+22) _ _ h _ h1 (NN br (fun i=>(Pt i))<|CN 2<|MM (ao 26 0 (AV.agg [p.ae,p.ag,p.au]) aA k!)<|EE k2<|CN 2<|VV (cf 31 false true .i64 (cG p) 0)<|BM f0 (ao 26 0 (AV.agg [p.ae,p.ag,p.au]) aA k!)<|EE k4<|CN 3<|VV (b7 3 false true .i64 ((List.length (pZ p):Nat):Int) 65536)<|BB f1<|CN 2<|ZZ) k!) k!) bB rfl
   · have fK:=of_decide_eq_false f1
     have e:cd p=((pZ p),0):=by simp only[cd,f0,f1,ak,ah]
     rw[e]
     exact aw rfl (aI Tryz.func7 zc rfl (.inr rfl) (pk (d+22) _ _ h _ h1 (NN br (fun i=>(Pt i))<|CN 2<|MM (ao 26 0 (AV.agg [p.ae,p.ag,p.au]) aA k!)<|EE k2<|CN 2<|VV (cf 31 false true .i64 (cG p) 0)<|BM f0 (ao 26 0 (AV.agg [p.ae,p.ag,p.au]) aA k!)<|EE k4<|CN 3<|VV (b7 3 false true .i64 ((List.length (pZ p):Nat):Int) 65536)<|BB f1<|CN 3<|ZZ) k!) k!) bB rfl
end
end Go.Proofs.aM
