import Derived.Test.YtmbkbhleedecdaaGreatDoorW0
import Derived.Test.YtmbkbhleedecdaaGreatDoorW8
import Derived.Test.YtmbkbhleedecdaaGreatDoorW10
import Derived.Test.YtmbkbhleedecdaaGreatDoorW2
import Derived.Test.YtmbkbhleedecdaaGreatDoorW5
namespace Go.Proofs.aM
open Go.Proofs Ab
noncomputable section
set_option maxRecDepth 100000
set_option maxHeartbeats 4000000
set_option linter.unusedVariables false
set_option linter.unusedSimpArgs false
def lP:Code:=(Tryz.f6.body).getD .skip
theorem zb:Tryz.f6.body=some lP:=by kernel_rfl
def IZ:Code:=(b5 lP).getD 0 .skip
def I0:Code:=(b5 lP).getD 1 .skip
def I1:Code:=(b5 lP).getD 2 .skip
def I2:Code:=(b5 lP).getD 3 .skip
def jD (p:bO) (i0:Nat):Nat→Nat→List UInt8→List UInt8
 | 0,_,jc=>jc
 | xC+1,i1,jc=>jD p i0 xC (i1+1) (jc++gV [[103,97,117,103,101],((p.ab.g i0).ar.g i1).name,(aN ((p.ab.g i0).ar.g i1).acc),(aN ((p.ab.g i0).ar.g i1).aW),(aN ((p.ab.g i0).ar.g i1).since)])
theorem xX {d:Nat} {h:ax} (p:bO) (i0:Nat) (f_:Nat) (lT:Nat) (iW:aJ h p.ae p.ab) (f':aJ h (p.ab.g i0).aD (p.ab.g i0).ar) (oW:aJ h p.ag p.af) (Ga:aJ h p.au p.ai) (xD:aH.ok h p) (R2:aH.ok h (p.ab.g i0)) (hG:h.get 1=some (aK.cells (bE .u64 n6) 162 true)) (BW:i0<p.ab.length) (tJ:oY p) (ca:Tidy h) (Yb:h.nx≤f_) (Yc:h.nx≤lT) (KZ:lT≠f_):∀(k_ i_:Nat) (jc:List UInt8) (qA:AV) (oL:AV) (_:i_+k_=((p.ab.g i0).ar.length)) (_:(List.length jc≤3500*i0+301+301*i_)) (x:Nat→AV) (hh:ax) (aF:Tidy hh) (aG:Has h hh) (oM:h.nx≤hh.nx) (cI:hh.get f_=some (aK.cells [p.ae,p.ag,p.au] 26 false)) (mJ:hh.get lT=some (aK.cells [qA,oL] 61 false)) (uA:qA= .dc∨qA= .ptr lT 0) (tM:eg 5 h hh oL (vA jc)) (ib:cz oL f_) (jT:cz oL lT),gM (σ:=List UInt8) (ζ:=AV×AV) (cT (d+11)) I0 ⟨((x 0)::(Pt f_)::rx x 2 3 ((Pt lT)::(AV.func 19 [] [(Pt lT)])::(AV.func 22 [] [])::rx x 8 15 (p.ae::(Zn p.ab.length)::(Zn i0)::rx x 26 31 (((p.ab.g i0).aD)::(Zn (p.ab.g i0).ar.length)::(Zn i_)::rx x 60 85 [])))),hh,[],.no⟩ (.exit 2) hh (fun r z y=>((y 0)::(Pt f_)::rx y 2 3 ((Pt lT)::(AV.func 19 [] [(Pt lT)])::(AV.func 22 [] [])::rx y 8 15 (p.ae::(Zn p.ab.length)::(Zn i0)::rx y 26 31 (((p.ab.g i0).aD)::(Zn (p.ab.g i0).ar.length)::rx y 59 86 []))))) (fun r z hk=>Has h hk∧hk.get f_=some (aK.cells [p.ae,p.ag,p.au] 26 false)∧hk.get lT=some (.cells [z.1,z.2] 61 false)∧(z.1= .dc∨z.1= .ptr lT 0)∧eg 5 h hk z.2 (vA r)∧cz z.2 f_∧cz z.2 lT∧(List.length r≤3500*i0+301+301*((p.ab.g i0).ar.length))) (jD p i0 k_ i_ jc)
 | 0,i1,jc,qA,oL,jh,v7,x,hh,aF,aG,oM,cI,mJ,uA,tM,ib,jT=>by
   have oh:=iW.small
   have n_:=f'.small
   have ry:=oW.small
   have KS:=Ga.small
   have yR:=aF _ _ cI
   have R3:=aF _ _ mJ
   have K0:=tJ.lens
   have Yd:=fun hj=>(tJ.az (j:=i0) hj).1
   have fg_:=fun hj hi=>tJ.IA (j:=i0) (i:=i1) hj hi
   have q1:(decide (((i1:Nat):Int)<(((p.ab.g i0).ar.length:Nat):Int)))=false:=d!
   exact gM.out jc (qA,oL) rfl (pk (d+11) _ _ hh _ hh (VV (aY 3 false false .i64 ((i1:Nat):Int) (((p.ab.g i0).ar.length:Nat):Int))<|BB q1<|ZZ) k!) aF o! ⟨aG,cI,mJ,uA,tM,ib,jT,(show (List.length jc≤3500*i0+301+301*((p.ab.g i0).ar.length)) from (by first | omega | (simp only[List.length_append,List.length_nil,List.length_cons];omega)))⟩ k!
 | xC+1,i1,jc,qA,oL,jh,v7,x,hh,aF,aG,oM,cI,mJ,uA,tM,ib,jT=>by
   have oh:=iW.small
   have n_:=f'.small
   have ry:=oW.small
   have KS:=Ga.small
   have yR:=aF _ _ cI
   have R3:=aF _ _ mJ
   have K0:=tJ.lens
   have Yd:=fun hj=>(tJ.az (j:=i0) hj).1
   have fg_:=fun hj hi=>tJ.IA (j:=i0) (i:=i1) hj hi
   have q1:(decide (((i1:Nat):Int)<(((p.ab.g i0).ar.length:Nat):Int)))=true:=d!
   obtain ⟨p3,q4,eD⟩:=f'.elem (i:=i1) o!
   have ik:b8 env (some (.slice 28)) (some (p.ab.g i0).aD) (some (Zn i1))=some (AV.ptr p3 q4):=eD
   have ji:bS env hh 28 (AV.ptr p3 q4)=some (AV.agg [(AV.str ((p.ab.g i0).ar.g i1).name),(Zi ((p.ab.g i0).ar.g i1).acc),(Zi ((p.ab.g i0).ar.g i1).aW),(Zi ((p.ab.g i0).ar.g i1).since)]):=(f'.has aG).load o! eD
   obtain ⟨h6,kI,kJ,BK,n7,eS⟩:=lk aF (aK.cells [(AV.str []),(Zi 0),(Zi 0),(Zi 0)] 28 false)
   have iC:Has h h6:=aG.trans eS
   have rH:Has hh h6:=eS
   obtain ⟨h7,kK,dK,xm,bG,cH⟩:=vF (t:=28) (n:=4) (i:=hh.nx) (L:=[(AV.str ((p.ab.g i0).ar.g i1).name),(Zi ((p.ab.g i0).ar.g i1).acc),(Zi ((p.ab.g i0).ar.g i1).aW),(Zi ((p.ab.g i0).ar.g i1).since)]) kJ n7 k! rfl rfl (by simp only[AV.cells,List.all_cons,List.all_nil,Bool.and_true,Bool.and_self,kC,iA,kD,kE,fY,nW,nX,nY,nZ,n4,kF])
   have cK:Has h h7:=Has.eB iC cH ca o!
   have iG:Has hh h7:=Has.eB rH cH aF o!
   have abb:(aN ((p.ab.g i0).ar.g i1).acc).length≤30:=h_ o! o!
   have k8:=ia (d:=d+5) ((p.ab.g i0).ar.g i1).acc (cK _ _ hG) (by first | omega | (simp only[List.length_append,List.length_nil,List.length_cons];omega)) (by first | omega | (simp only[List.length_append,List.length_nil,List.length_cons];omega)) dK
   have Wh:(aN ((p.ab.g i0).ar.g i1).aW).length≤30:=h_ o! o!
   have k9:=ia (d:=d+5) ((p.ab.g i0).ar.g i1).aW (cK _ _ hG) (by first | omega | (simp only[List.length_append,List.length_nil,List.length_cons];omega)) (by first | omega | (simp only[List.length_append,List.length_nil,List.length_cons];omega)) dK
   have R':(aN ((p.ab.g i0).ar.g i1).since).length≤30:=h_ o! o!
   have xb:=ia (d:=d+5) ((p.ab.g i0).ar.g i1).since (cK _ _ hG) (by first | omega | (simp only[List.length_append,List.length_nil,List.length_cons];omega)) (by first | omega | (simp only[List.length_append,List.length_nil,List.length_cons];omega)) dK
   obtain ⟨Ye,Sa,I3,abc,I4,pJ⟩:=lk dK (aK.cells [(AV.str [103,97,117,103,101]),(AV.str ((p.ab.g i0).ar.g i1).name),(AV.str (aN ((p.ab.g i0).ar.g i1).acc)),(AV.str (aN ((p.ab.g i0).ar.g i1).aW)),(AV.str (aN ((p.ab.g i0).ar.g i1).since))] 9 false)
   have Sb:Has h Ye:=cK.trans pJ
   have tN:Has hh Ye:=iG.trans pJ
   have Yf:(Lib.join [[103,97,117,103,101],((p.ab.g i0).ar.g i1).name,(aN ((p.ab.g i0).ar.g i1).acc),(aN ((p.ab.g i0).ar.g i1).aW),(aN ((p.ab.g i0).ar.g i1).since)] [32]).length≤300:=by simp only[Lib.join_cons,Lib.joinTail,List.map_cons,List.map_nil,List.flatten_cons,List.flatten_nil,List.length_append,List.length_cons,List.length_nil];omega
   have Yg:(gV [[103,97,117,103,101],((p.ab.g i0).ar.g i1).name,(aN ((p.ab.g i0).ar.g i1).acc),(aN ((p.ab.g i0).ar.g i1).aW),(aN ((p.ab.g i0).ar.g i1).since)]).length≤301:=by rw[gV,List.length_append,List.length_cons,List.length_nil];omega
   obtain ⟨z13,yg,Sc,xQ,Wi,tx,Yh,K1,C1,K2⟩:=Gi (d:=d+8) (g:=h) (t:=jc) (W:=[[103,97,117,103,101],((p.ab.g i0).ar.g i1).name,(aN ((p.ab.g i0).ar.g i1).acc),(aN ((p.ab.g i0).ar.g i1).aW),(aN ((p.ab.g i0).ar.g i1).since)]) (q:=h7.nx) (n:=5) (c:=5) (op:=false) I3 (pJ _ _ (cH _ _ o! (eS _ _ mJ))) uA (eg.has tM tN) jT o! I4 rfl (by decide) (by decide) o! (by first | omega | (simp only[List.length_append,List.length_nil];omega))
   have xR:Has h yg:=Has.IY Sb ca (Nat.le_refl _) (eg.has tM tN) o! C1
   have Qw:=eZ 3 false true i1 1 o!
   exact gM.round (by simp only[jD,ak,ah]) (pk (d+11) _ _ hh _ yg (VV (aY 3 false false .i64 ((i1:Nat):Int) (((p.ab.g i0).ar.length:Nat):Int))<|BV q1 ik<|MM ji<|NN kI (fun i=>(Pt i))<|SS kK<|CN 2<|MM (ao 9 0 (AV.str ((p.ab.g i0).ar.g i1).name) bG k!)<|CN 2<|MM (ao 3 1 (Zi ((p.ab.g i0).ar.g i1).acc) bG k!)<|CN 2<|MM (ao 3 2 (Zi ((p.ab.g i0).ar.g i1).aW) bG k!)<|CN 2<|MM (ao 3 3 (Zi ((p.ab.g i0).ar.g i1).since) bG k!)<|EE k8<|EE k9<|EE xb<|NN Sa (fun i=>(AV.slice i 0 5 5 false))<|EE Sc<|HH (ao 9 0 (AV.str ((p.ab.g i0).ar.g i1).name) bG k!)<|HH (show AV.same 20 (AV.str ((p.ab.g i0).ar.g i1).name) (AV.str ((p.ab.g i0).ar.g i1).name)=true from aP 19 _)<|HH (ao 9 0 (AV.str ((p.ab.g i0).ar.g i1).name) bG k!)<|HH (show AV.same 20 (AV.str ((p.ab.g i0).ar.g i1).name) (AV.str ((p.ab.g i0).ar.g i1).name)=true from aP 19 _)<|HH (ao 9 0 (AV.str ((p.ab.g i0).ar.g i1).name) bG k!)<|HH (show AV.same 20 (AV.str ((p.ab.g i0).ar.g i1).name) (AV.str ((p.ab.g i0).ar.g i1).name)=true from aP 19 _)<|HH (ao 9 0 (AV.str ((p.ab.g i0).ar.g i1).name) (pJ _ _ bG) k!)<|HH (show AV.same 20 (AV.str ((p.ab.g i0).ar.g i1).name) (AV.str ((p.ab.g i0).ar.g i1).name)=true from aP 19 _)<|HH (ao 3 1 (Zi ((p.ab.g i0).ar.g i1).acc) bG k!)<|HH (show AV.same 20 (Zi ((p.ab.g i0).ar.g i1).acc) (Zi ((p.ab.g i0).ar.g i1).acc)=true from aC 19 _ _)<|HH (ao 3 2 (Zi ((p.ab.g i0).ar.g i1).aW) bG k!)<|HH (show AV.same 20 (Zi ((p.ab.g i0).ar.g i1).aW) (Zi ((p.ab.g i0).ar.g i1).aW)=true from aC 19 _ _)<|HH (ao 3 2 (Zi ((p.ab.g i0).ar.g i1).aW) bG k!)<|HH (show AV.same 20 (Zi ((p.ab.g i0).ar.g i1).aW) (Zi ((p.ab.g i0).ar.g i1).aW)=true from aC 19 _ _)<|HH (ao 3 3 (Zi ((p.ab.g i0).ar.g i1).since) bG k!)<|HH (show AV.same 20 (Zi ((p.ab.g i0).ar.g i1).since) (Zi ((p.ab.g i0).ar.g i1).since)=true from aC 19 _ _)<|HH (ao 3 3 (Zi ((p.ab.g i0).ar.g i1).since) bG k!)<|HH (show AV.same 20 (Zi ((p.ab.g i0).ar.g i1).since) (Zi ((p.ab.g i0).ar.g i1).since)=true from aC 19 _ _)<|HH (ao 3 3 (Zi ((p.ab.g i0).ar.g i1).since) bG k!)<|HH (show AV.same 20 (Zi ((p.ab.g i0).ar.g i1).since) (Zi ((p.ab.g i0).ar.g i1).since)=true from aC 19 _ _)<|HH (show ∃o,Ye.get h7.nx=some o∧aK.same o (aK.cells [(AV.str [103,97,117,103,101]),(AV.str ((p.ab.g i0).ar.g i1).name),(AV.str (aN ((p.ab.g i0).ar.g i1).acc)),(AV.str (aN ((p.ab.g i0).ar.g i1).aW)),(AV.str (aN ((p.ab.g i0).ar.g i1).since))] 9 false)=true from ⟨_,I4,by simp [aK.same,eU,AV.same]⟩)<|VV Qw<|CC<|ZZ) k!) o! _ k! (fun x=>xX p i0 f_ lT iW f' oW Ga xD R2 hG BW tJ ca Yb Yc KZ xC (i1+1) (jc++gV [[103,97,117,103,101],((p.ab.g i0).ar.g i1).name,(aN ((p.ab.g i0).ar.g i1).acc),(aN ((p.ab.g i0).ar.g i1).aW),(aN ((p.ab.g i0).ar.g i1).since)]) (Pt lT) z13 o! (show (List.length (jc++gV [[103,97,117,103,101],((p.ab.g i0).ar.g i1).name,(aN ((p.ab.g i0).ar.g i1).acc),(aN ((p.ab.g i0).ar.g i1).aW),(aN ((p.ab.g i0).ar.g i1).since)])≤3500*i0+301+301*(i1+1)) from (by first | omega | (simp only[List.length_append,List.length_nil,List.length_cons];omega))) x yg xQ xR o! (C1 _ _ o! ib (pJ _ _ (cH _ _ o! (eS _ _ cI)))) tx (.inr rfl) Yh (K2 _ (I3 _ _ (pJ _ _ (cH _ _ o! (eS _ _ cI)))) ib) K1)
def db (p:bO):Nat→Nat→List UInt8→List UInt8
 | 0,_,gZ=>gZ
 | eC+1,i0,gZ=>db p eC (i0+1) (jD p i0 (p.ab.g i0).ar.length 0 (gZ++gV [[113,117,97,110,116,105,116,121],(p.ab.g i0).name,(aN (p.ab.g i0).aq),(aN (p.ab.g i0).aj),(aN (p.ab.g i0).aO),(aN (p.ab.g i0).aR),(aN (p.ab.g i0).bad)]))
theorem xY {d:Nat} {h:ax} (p:bO) (da:Nat) (jj:Nat) (bh:aJ h p.ae p.ab) (di:aJ h p.ag p.af) (jR:aJ h p.au p.ai) (oa:aH.ok h p) (hG:h.get 1=some (aK.cells (bE .u64 n6) 162 true)) (ma:oY p) (ca:Tidy h) (Yi:h.nx≤da) (ac4:h.nx≤jj) (Yj:jj≠da):∀(k_ i_:Nat) (gZ:List UInt8) (qB:AV) (oN:AV) (_:i_+k_=p.ab.length) (_:(List.length gZ≤3500*i_)) (x:Nat→AV) (hh:ax) (aF:Tidy hh) (aG:Has h hh) (oM:h.nx≤hh.nx) (b6:hh.get da=some (aK.cells [p.ae,p.ag,p.au] 26 false)) (jk:hh.get jj=some (aK.cells [qB,oN] 61 false)) (uB:qB= .dc∨qB= .ptr jj 0) (qC:eg 5 h hh oN (vA gZ)) (ic:cz oN da) (jU:cz oN jj),gM (σ:=List UInt8) (ζ:=AV×AV) (cT (d+11)) IZ ⟨((x 0)::(Pt da)::rx x 2 3 ((Pt jj)::(AV.func 19 [] [(Pt jj)])::(AV.func 22 [] [])::rx x 8 15 (p.ae::(Zn p.ab.length)::(Zn i_)::rx x 26 119 []))),hh,[],.no⟩ (.exit 0) hh (fun r z y=>((y 0)::(Pt da)::rx y 2 3 ((Pt jj)::(AV.func 19 [] [(Pt jj)])::(AV.func 22 [] [])::rx y 8 15 (p.ae::(Zn p.ab.length)::rx y 25 120 [])))) (fun r z hk=>Has h hk∧hk.get da=some (aK.cells [p.ae,p.ag,p.au] 26 false)∧hk.get jj=some (.cells [z.1,z.2] 61 false)∧(z.1= .dc∨z.1= .ptr jj 0)∧eg 5 h hk z.2 (vA r)∧cz z.2 da∧cz z.2 jj∧(List.length r≤3500*p.ab.length)) (db p k_ i_ gZ)
 | 0,i0,gZ,qB,oN,jh,v7,x,hh,aF,aG,oM,b6,jk,uB,qC,ic,jU=>by
   have dp:=bh.small
   have gd:=di.small
   have og:=jR.small
   have te:=aF _ _ b6
   have Kr:=aF _ _ jk
   have K0:=ma.lens
   have Yd:=fun hj=>(ma.az (j:=i0) hj).1
   have q1:(decide (((i0:Nat):Int)<((p.ab.length:Nat):Int)))=false:=d!
   exact gM.out gZ (qB,oN) rfl (pk (d+11) _ _ hh _ hh (VV (aY 3 false false .i64 ((i0:Nat):Int) ((p.ab.length:Nat):Int))<|BB q1<|ZZ) k!) aF o! ⟨aG,b6,jk,uB,qC,ic,jU,(show (List.length gZ≤3500*p.ab.length) from (by first | omega | (simp only[List.length_append,List.length_nil,List.length_cons];omega)))⟩ k!
 | eC+1,i0,gZ,qB,oN,jh,v7,x,hh,aF,aG,oM,b6,jk,uB,qC,ic,jU=>by
   have dp:=bh.small
   have gd:=di.small
   have og:=jR.small
   have te:=aF _ _ b6
   have Kr:=aF _ _ jk
   have K0:=ma.lens
   have Yd:=fun hj=>(ma.az (j:=i0) hj).1
   have q1:(decide (((i0:Nat):Int)<((p.ab.length:Nat):Int)))=true:=d!
   obtain ⟨p3,q4,eD⟩:=bh.elem (i:=i0) o!
   have ik:b8 env (some (.slice 43)) (some p.ae) (some (Zn i0))=some (AV.ptr p3 q4):=eD
   have ji:bS env hh 43 (AV.ptr p3 q4)=some (AV.agg [(AV.str (p.ab.g i0).name),(Zi (p.ab.g i0).aq),(Zi (p.ab.g i0).aj),(Zi (p.ab.g i0).aO),(Zi (p.ab.g i0).aR),(Zi (p.ab.g i0).bad),(p.ab.g i0).aD]):=(bh.has aG).load o! eD
   obtain ⟨h6,kI,kJ,BK,n7,eS⟩:=lk aF (aK.cells [(AV.str []),(Zi 0),(Zi 0),(Zi 0),(Zi 0),(Zi 0),AV.aX] 43 false)
   have iC:Has h h6:=aG.trans eS
   have rH:Has hh h6:=eS
   have sc8:AV.scalar (p.ab.g i0).aD=true:=((bh.ok (i:=i0) o!).2).scalar
   obtain ⟨h7,kK,dK,xm,bG,cH⟩:=vF (t:=43) (n:=7) (i:=hh.nx) (L:=[(AV.str (p.ab.g i0).name),(Zi (p.ab.g i0).aq),(Zi (p.ab.g i0).aj),(Zi (p.ab.g i0).aO),(Zi (p.ab.g i0).aR),(Zi (p.ab.g i0).bad),(p.ab.g i0).aD]) kJ n7 k! rfl rfl (by simp only[AV.cells,List.all_cons,List.all_nil,Bool.and_true,Bool.and_self,kC,iA,kD,kE,fY,nW,nX,nY,nZ,n4,kF,sc8])
   have cK:Has h h7:=Has.eB iC cH ca o!
   have iG:Has hh h7:=Has.eB rH cH aF o!
   have Wh:(aN (p.ab.g i0).aq).length≤30:=h_ o! o!
   have k9:=ia (d:=d+5) (p.ab.g i0).aq (cK _ _ hG) (by first | omega | (simp only[List.length_append,List.length_nil,List.length_cons];omega)) (by first | omega | (simp only[List.length_append,List.length_nil,List.length_cons];omega)) dK
   have R':(aN (p.ab.g i0).aj).length≤30:=h_ o! o!
   have xb:=ia (d:=d+5) (p.ab.g i0).aj (cK _ _ hG) (by first | omega | (simp only[List.length_append,List.length_nil,List.length_cons];omega)) (by first | omega | (simp only[List.length_append,List.length_nil,List.length_cons];omega)) dK
   have ac5:(aN (p.ab.g i0).aO).length≤30:=h_ o! o!
   have uv:=ia (d:=d+5) (p.ab.g i0).aO (cK _ _ hG) (by first | omega | (simp only[List.length_append,List.length_nil,List.length_cons];omega)) (by first | omega | (simp only[List.length_append,List.length_nil,List.length_cons];omega)) dK
   have Yk:(aN (p.ab.g i0).aR).length≤30:=h_ o! o!
   have Jg:=ia (d:=d+5) (p.ab.g i0).aR (cK _ _ hG) (by first | omega | (simp only[List.length_append,List.length_nil,List.length_cons];omega)) (by first | omega | (simp only[List.length_append,List.length_nil,List.length_cons];omega)) dK
   have Yl:(aN (p.ab.g i0).bad).length≤30:=h_ o! o!
   have No:=ia (d:=d+5) (p.ab.g i0).bad (cK _ _ hG) (by first | omega | (simp only[List.length_append,List.length_nil,List.length_cons];omega)) (by first | omega | (simp only[List.length_append,List.length_nil,List.length_cons];omega)) dK
   obtain ⟨o6,abd,oo,IF,kq,C2⟩:=lk dK (aK.cells [(AV.str [113,117,97,110,116,105,116,121]),(AV.str (p.ab.g i0).name),(AV.str (aN (p.ab.g i0).aq)),(AV.str (aN (p.ab.g i0).aj)),(AV.str (aN (p.ab.g i0).aO)),(AV.str (aN (p.ab.g i0).aR)),(AV.str (aN (p.ab.g i0).bad))] 9 false)
   have pC:Has h o6:=cK.trans C2
   have I5:Has hh o6:=iG.trans C2
   have ac6:(Lib.join [[113,117,97,110,116,105,116,121],(p.ab.g i0).name,(aN (p.ab.g i0).aq),(aN (p.ab.g i0).aj),(aN (p.ab.g i0).aO),(aN (p.ab.g i0).aR),(aN (p.ab.g i0).bad)] [32]).length≤300:=by simp only[Lib.join_cons,Lib.joinTail,List.map_cons,List.map_nil,List.flatten_cons,List.flatten_nil,List.length_append,List.length_cons,List.length_nil];omega
   have ac7:(gV [[113,117,97,110,116,105,116,121],(p.ab.g i0).name,(aN (p.ab.g i0).aq),(aN (p.ab.g i0).aj),(aN (p.ab.g i0).aO),(aN (p.ab.g i0).aR),(aN (p.ab.g i0).bad)]).length≤301:=by rw[gV,List.length_append,List.length_cons,List.length_nil];omega
   obtain ⟨z16,qa,abe,tg,Mb,xS,ac8,Ym,K3,Yn⟩:=Gi (d:=d+8) (g:=h) (t:=gZ) (W:=[[113,117,97,110,116,105,116,121],(p.ab.g i0).name,(aN (p.ab.g i0).aq),(aN (p.ab.g i0).aj),(aN (p.ab.g i0).aO),(aN (p.ab.g i0).aR),(aN (p.ab.g i0).bad)]) (q:=h7.nx) (n:=7) (c:=7) (op:=false) oo (C2 _ _ (cH _ _ o! (eS _ _ jk))) uB (eg.has qC I5) jU o! kq rfl (by decide) (by decide) o! (by first | omega | (simp only[List.length_append,List.length_nil];omega))
   have m4:Has h qa:=Has.IY pC ca (Nat.le_refl _) (eg.has qC I5) o! K3
   have ac9:cg (some (.slice 28)) (some (p.ab.g i0).aD)=some (Zn (p.ab.g i0).ar.length):=((bh.ok (i:=i0) o!).2).len
   obtain ⟨⟨ada,adb⟩,aeo,GC,UO,ID,ad1,Yo,UP,UQ,Sd,UR,tO,tP,abf⟩:=xX (d:=d) (h:=h) p i0 da jj bh (bh.ok (i:=i0) o!).2 di jR oa (bh.ok (i:=i0) o!) hG o! ma ca o! o! o! (p.ab.g i0).ar.length 0 (gZ++gV [[113,117,97,110,116,105,116,121],(p.ab.g i0).name,(aN (p.ab.g i0).aq),(aN (p.ab.g i0).aj),(aN (p.ab.g i0).aO),(aN (p.ab.g i0).aR),(aN (p.ab.g i0).bad)]) (Pt jj) z16 o! (show (List.length (gZ++gV [[113,117,97,110,116,105,116,121],(p.ab.g i0).name,(aN (p.ab.g i0).aq),(aN (p.ab.g i0).aj),(aN (p.ab.g i0).aO),(aN (p.ab.g i0).aR),(aN (p.ab.g i0).bad)])≤3500*i0+301+301*0) from (by first | omega | (simp only[List.length_append,List.length_nil,List.length_cons];omega))) (fun k_=>(((x 0)::(Pt da)::rx x 2 3 ((Pt jj)::(AV.func 19 [] [(Pt jj)])::(AV.func 22 [] [])::(x 8)::(Pt hh.nx)::rx x 10 13 (p.ae::(Zn p.ab.length)::(Zn i0)::(AV.bool (decide (((i0:Nat):Int)<((p.ab.length:Nat):Int))))::(AV.ptr p3 q4)::(AV.agg [(AV.str (p.ab.g i0).name),(Zi (p.ab.g i0).aq),(Zi (p.ab.g i0).aj),(Zi (p.ab.g i0).aO),(Zi (p.ab.g i0).aR),(Zi (p.ab.g i0).bad),(p.ab.g i0).aD])::(AV.func 19 [] [(Pt jj)])::(Pt hh.nx)::(AV.str (p.ab.g i0).name)::(AV.func 22 [] [])::(AV.ptr hh.nx 1)::(AV.ptr hh.nx 1)::(Zi (p.ab.g i0).aq)::(AV.str (aN (p.ab.g i0).aq))::(AV.func 22 [] [])::(AV.ptr hh.nx 1)::(AV.ptr hh.nx 2)::(Zi (p.ab.g i0).aj)::(AV.str (aN (p.ab.g i0).aj))::(AV.func 22 [] [])::(AV.ptr hh.nx 3)::(Zi (p.ab.g i0).aO)::(AV.str (aN (p.ab.g i0).aO))::(AV.func 22 [] [])::(AV.ptr hh.nx 4)::(Zi (p.ab.g i0).aR)::(AV.str (aN (p.ab.g i0).aR))::(AV.func 22 [] [])::(AV.ptr hh.nx 5)::(Zi (p.ab.g i0).bad)::(AV.str (aN (p.ab.g i0).bad))::(AV.slice h7.nx 0 7 7 false)::(AV.tuple [])::(AV.ptr hh.nx 6)::((p.ab.g i0).aD)::(Zn (p.ab.g i0).ar.length)::(Zi 0)::rx x 60 85 []))):List AV).getD k_ AV.undef) qa tg m4 o! (K3 _ _ o! ic (C2 _ _ (cH _ _ o! (eS _ _ b6)))) xS (.inr rfl) ac8 (Yn _ (oo _ _ (C2 _ _ (cH _ _ o! (eS _ _ b6)))) ic) Ym
   have IE:Has h GC:=Yo
   have u23:=eZ 3 false true i0 1 o!
   exact gM.round (by simp only[db,ak,ah]) (pk (d+11) _ _ hh _ GC (VV (aY 3 false false .i64 ((i0:Nat):Int) ((p.ab.length:Nat):Int))<|BV q1 ik<|MM ji<|NN kI (fun i=>(Pt i))<|SS kK<|CN 2<|MM (ao 9 0 (AV.str (p.ab.g i0).name) bG k!)<|CN 3<|MM (ao 3 1 (Zi (p.ab.g i0).aq) bG k!)<|CN 3<|MM (ao 3 2 (Zi (p.ab.g i0).aj) bG k!)<|CN 2<|MM (ao 3 3 (Zi (p.ab.g i0).aO) bG k!)<|CN 2<|MM (ao 3 4 (Zi (p.ab.g i0).aR) bG k!)<|CN 2<|MM (ao 3 5 (Zi (p.ab.g i0).bad) bG k!)<|EE k9<|EE xb<|EE uv<|EE Jg<|EE No<|NN abd (fun i=>(AV.slice i 0 7 7 false))<|EE abe<|HH (ao 9 0 (AV.str (p.ab.g i0).name) bG k!)<|HH (show AV.same 20 (AV.str (p.ab.g i0).name) (AV.str (p.ab.g i0).name)=true from aP 19 _)<|HH (ao 9 0 (AV.str (p.ab.g i0).name) bG k!)<|HH (show AV.same 20 (AV.str (p.ab.g i0).name) (AV.str (p.ab.g i0).name)=true from aP 19 _)<|HH (ao 9 0 (AV.str (p.ab.g i0).name) bG k!)<|HH (show AV.same 20 (AV.str (p.ab.g i0).name) (AV.str (p.ab.g i0).name)=true from aP 19 _)<|HH (ao 9 0 (AV.str (p.ab.g i0).name) bG k!)<|HH (show AV.same 20 (AV.str (p.ab.g i0).name) (AV.str (p.ab.g i0).name)=true from aP 19 _)<|HH (ao 9 0 (AV.str (p.ab.g i0).name) bG k!)<|HH (show AV.same 20 (AV.str (p.ab.g i0).name) (AV.str (p.ab.g i0).name)=true from aP 19 _)<|HH (ao 9 0 (AV.str (p.ab.g i0).name) (C2 _ _ bG) k!)<|HH (show AV.same 20 (AV.str (p.ab.g i0).name) (AV.str (p.ab.g i0).name)=true from aP 19 _)<|HH (ao 3 1 (Zi (p.ab.g i0).aq) bG k!)<|HH (show AV.same 20 (Zi (p.ab.g i0).aq) (Zi (p.ab.g i0).aq)=true from aC 19 _ _)<|HH (ao 3 2 (Zi (p.ab.g i0).aj) bG k!)<|HH (show AV.same 20 (Zi (p.ab.g i0).aj) (Zi (p.ab.g i0).aj)=true from aC 19 _ _)<|HH (ao 3 2 (Zi (p.ab.g i0).aj) bG k!)<|HH (show AV.same 20 (Zi (p.ab.g i0).aj) (Zi (p.ab.g i0).aj)=true from aC 19 _ _)<|HH (ao 3 3 (Zi (p.ab.g i0).aO) bG k!)<|HH (show AV.same 20 (Zi (p.ab.g i0).aO) (Zi (p.ab.g i0).aO)=true from aC 19 _ _)<|HH (ao 3 3 (Zi (p.ab.g i0).aO) bG k!)<|HH (show AV.same 20 (Zi (p.ab.g i0).aO) (Zi (p.ab.g i0).aO)=true from aC 19 _ _)<|HH (ao 3 3 (Zi (p.ab.g i0).aO) bG k!)<|HH (show AV.same 20 (Zi (p.ab.g i0).aO) (Zi (p.ab.g i0).aO)=true from aC 19 _ _)<|HH (ao 3 4 (Zi (p.ab.g i0).aR) bG k!)<|HH (show AV.same 20 (Zi (p.ab.g i0).aR) (Zi (p.ab.g i0).aR)=true from aC 19 _ _)<|HH (ao 3 4 (Zi (p.ab.g i0).aR) bG k!)<|HH (show AV.same 20 (Zi (p.ab.g i0).aR) (Zi (p.ab.g i0).aR)=true from aC 19 _ _)<|HH (ao 3 4 (Zi (p.ab.g i0).aR) bG k!)<|HH (show AV.same 20 (Zi (p.ab.g i0).aR) (Zi (p.ab.g i0).aR)=true from aC 19 _ _)<|HH (ao 3 4 (Zi (p.ab.g i0).aR) bG k!)<|HH (show AV.same 20 (Zi (p.ab.g i0).aR) (Zi (p.ab.g i0).aR)=true from aC 19 _ _)<|HH (ao 3 5 (Zi (p.ab.g i0).bad) bG k!)<|HH (show AV.same 20 (Zi (p.ab.g i0).bad) (Zi (p.ab.g i0).bad)=true from aC 19 _ _)<|HH (ao 3 5 (Zi (p.ab.g i0).bad) bG k!)<|HH (show AV.same 20 (Zi (p.ab.g i0).bad) (Zi (p.ab.g i0).bad)=true from aC 19 _ _)<|HH (ao 3 5 (Zi (p.ab.g i0).bad) bG k!)<|HH (show AV.same 20 (Zi (p.ab.g i0).bad) (Zi (p.ab.g i0).bad)=true from aC 19 _ _)<|HH (ao 3 5 (Zi (p.ab.g i0).bad) bG k!)<|HH (show AV.same 20 (Zi (p.ab.g i0).bad) (Zi (p.ab.g i0).bad)=true from aC 19 _ _)<|HH (ao 3 5 (Zi (p.ab.g i0).bad) bG k!)<|HH (show AV.same 20 (Zi (p.ab.g i0).bad) (Zi (p.ab.g i0).bad)=true from aC 19 _ _)<|HH (show ∃o,o6.get h7.nx=some o∧aK.same o (aK.cells [(AV.str [113,117,97,110,116,105,116,121]),(AV.str (p.ab.g i0).name),(AV.str (aN (p.ab.g i0).aq)),(AV.str (aN (p.ab.g i0).aj)),(AV.str (aN (p.ab.g i0).aO)),(AV.str (aN (p.ab.g i0).aR)),(AV.str (aN (p.ab.g i0).bad))] 9 false)=true from ⟨_,kq,by simp [aK.same,eU,AV.same]⟩)<|CC<|MM (ao 41 6 (p.ab.g i0).aD (K3 _ _ o! (eg.Wc aF qC o!) (C2 _ _ bG)) k!)<|VV ac9<|CC<|LL UO<|VV u23<|CC<|ZZ) k!) o! _ k! (fun x=>xY p da jj bh di jR oa hG ma ca Yi ac4 Yj eC (i0+1) (jD p i0 (p.ab.g i0).ar.length 0 (gZ++gV [[113,117,97,110,116,105,116,121],(p.ab.g i0).name,(aN (p.ab.g i0).aq),(aN (p.ab.g i0).aj),(aN (p.ab.g i0).aO),(aN (p.ab.g i0).aR),(aN (p.ab.g i0).bad)])) ada adb o! (show (List.length (jD p i0 (p.ab.g i0).ar.length 0 (gZ++gV [[113,117,97,110,116,105,116,121],(p.ab.g i0).name,(aN (p.ab.g i0).aq),(aN (p.ab.g i0).aj),(aN (p.ab.g i0).aO),(aN (p.ab.g i0).aR),(aN (p.ab.g i0).bad)]))≤3500*(i0+1)) from (by first | omega | (simp only[List.length_append,List.length_nil,List.length_cons];omega))) x GC ID IE o! UP UQ Sd UR tO tP)
def du (p:bO):Nat→Nat→List UInt8→List UInt8
 | 0,_,jd=>jd
 | Kv+1,i2,jd=>du p Kv (i2+1) (jd++gV [[109,101,97,115,117,114,101],(p.af.g i2).name,(p.af.g i2).ba,(aN (p.af.g i2).bx),(aN (p.af.g i2).eK),(aN (p.af.g i2).bm)])
theorem xZ {d:Nat} {h:ax} (p:bO) (lR:Nat) (qz:Nat) (th:aJ h p.ag p.af) (mI:aJ h p.ae p.ab) (qv:aJ h p.au p.ai) (Kw:aH.ok h p) (hG:h.get 1=some (aK.cells (bE .u64 n6) 162 true)) (yZ:oY p) (ca:Tidy h) (Yp:h.nx≤lR) (ade:h.nx≤qz) (Yq:qz≠lR):∀(k_ i_:Nat) (jd:List UInt8) (qD:AV) (oO:AV) (_:i_+k_=p.af.length) (_:(List.length jd≤3500*p.ab.length+301*i_)) (x:Nat→AV) (hh:ax) (aF:Tidy hh) (aG:Has h hh) (oM:h.nx≤hh.nx) (gn:hh.get lR=some (aK.cells [p.ae,p.ag,p.au] 26 false)) (uU:hh.get qz=some (aK.cells [qD,oO] 61 false)) (uC:qD= .dc∨qD= .ptr qz 0) (tQ:eg 5 h hh oO (vA jd)) (ie:cz oO lR) (jV:cz oO qz),gM (σ:=List UInt8) (ζ:=AV×AV) (cT (d+11)) I1 ⟨((x 0)::(Pt lR)::rx x 2 3 ((Pt qz)::(AV.func 19 [] [(Pt qz)])::(AV.func 22 [] [])::rx x 8 75 (p.ag::(Zn p.af.length)::(Zn i_)::rx x 86 59 []))),hh,[],.no⟩ (.exit 4) hh (fun r z y=>((y 0)::(Pt lR)::rx y 2 3 ((Pt qz)::(AV.func 19 [] [(Pt qz)])::(AV.func 22 [] [])::rx y 8 75 (p.ag::(Zn p.af.length)::rx y 85 60 [])))) (fun r z hk=>Has h hk∧hk.get lR=some (aK.cells [p.ae,p.ag,p.au] 26 false)∧hk.get qz=some (.cells [z.1,z.2] 61 false)∧(z.1= .dc∨z.1= .ptr qz 0)∧eg 5 h hk z.2 (vA r)∧cz z.2 lR∧cz z.2 qz∧(List.length r≤3500*p.ab.length+301*p.af.length)) (du p k_ i_ jd)
 | 0,i2,jd,qD,oO,jh,v7,x,hh,aF,aG,oM,gn,uU,uC,tQ,ie,jV=>by
   have vQ:=th.small
   have vR:=mI.small
   have vS:=qv.small
   have Kx:=aF _ _ gn
   have X_:=aF _ _ uU
   have K0:=yZ.lens
   have fm_:=fun hj=>yZ.measure (j:=i2) hj
   have q1:(decide (((i2:Nat):Int)<((p.af.length:Nat):Int)))=false:=d!
   exact gM.out jd (qD,oO) rfl (pk (d+11) _ _ hh _ hh (VV (aY 3 false false .i64 ((i2:Nat):Int) ((p.af.length:Nat):Int))<|BB q1<|ZZ) k!) aF o! ⟨aG,gn,uU,uC,tQ,ie,jV,(show (List.length jd≤3500*p.ab.length+301*p.af.length) from (by first | omega | (simp only[List.length_append,List.length_nil,List.length_cons];omega)))⟩ k!
 | Kv+1,i2,jd,qD,oO,jh,v7,x,hh,aF,aG,oM,gn,uU,uC,tQ,ie,jV=>by
   have vQ:=th.small
   have vR:=mI.small
   have vS:=qv.small
   have Kx:=aF _ _ gn
   have X_:=aF _ _ uU
   have K0:=yZ.lens
   have fm_:=fun hj=>yZ.measure (j:=i2) hj
   have q1:(decide (((i2:Nat):Int)<((p.af.length:Nat):Int)))=true:=d!
   obtain ⟨p3,q4,eD⟩:=th.elem (i:=i2) o!
   have ik:b8 env (some (.slice 45)) (some p.ag) (some (Zn i2))=some (AV.ptr p3 q4):=eD
   have ji:bS env hh 45 (AV.ptr p3 q4)=some (AV.agg [(AV.str (p.af.g i2).name),(AV.str (p.af.g i2).ba),(Zi (p.af.g i2).bx),(Zi (p.af.g i2).eK),(Zi (p.af.g i2).bm)]):=(th.has aG).load o! eD
   obtain ⟨h6,kI,kJ,BK,n7,eS⟩:=lk aF (aK.cells [(AV.str []),(AV.str []),(Zi 0),(Zi 0),(Zi 0)] 45 false)
   have iC:Has h h6:=aG.trans eS
   have rH:Has hh h6:=eS
   obtain ⟨h7,kK,dK,xm,bG,cH⟩:=vF (t:=45) (n:=5) (i:=hh.nx) (L:=[(AV.str (p.af.g i2).name),(AV.str (p.af.g i2).ba),(Zi (p.af.g i2).bx),(Zi (p.af.g i2).eK),(Zi (p.af.g i2).bm)]) kJ n7 k! rfl rfl (by simp only[AV.cells,List.all_cons,List.all_nil,Bool.and_true,Bool.and_self,kC,iA,kD,kE,fY,nW,nX,nY,nZ,n4,kF])
   have cK:Has h h7:=Has.eB iC cH ca o!
   have iG:Has hh h7:=Has.eB rH cH aF o!
   have abb:(aN (p.af.g i2).bx).length≤30:=h_ o! o!
   have k8:=ia (d:=d+5) (p.af.g i2).bx (cK _ _ hG) (by first | omega | (simp only[List.length_append,List.length_nil,List.length_cons];omega)) (by first | omega | (simp only[List.length_append,List.length_nil,List.length_cons];omega)) dK
   have Wh:(aN (p.af.g i2).eK).length≤30:=h_ o! o!
   have k9:=ia (d:=d+5) (p.af.g i2).eK (cK _ _ hG) (by first | omega | (simp only[List.length_append,List.length_nil,List.length_cons];omega)) (by first | omega | (simp only[List.length_append,List.length_nil,List.length_cons];omega)) dK
   have R':(aN (p.af.g i2).bm).length≤30:=h_ o! o!
   have xb:=ia (d:=d+5) (p.af.g i2).bm (cK _ _ hG) (by first | omega | (simp only[List.length_append,List.length_nil,List.length_cons];omega)) (by first | omega | (simp only[List.length_append,List.length_nil,List.length_cons];omega)) dK
   obtain ⟨Ye,Sa,I3,abc,I4,pJ⟩:=lk dK (aK.cells [(AV.str [109,101,97,115,117,114,101]),(AV.str (p.af.g i2).name),(AV.str (p.af.g i2).ba),(AV.str (aN (p.af.g i2).bx)),(AV.str (aN (p.af.g i2).eK)),(AV.str (aN (p.af.g i2).bm))] 9 false)
   have Sb:Has h Ye:=cK.trans pJ
   have tN:Has hh Ye:=iG.trans pJ
   have Yf:(Lib.join [[109,101,97,115,117,114,101],(p.af.g i2).name,(p.af.g i2).ba,(aN (p.af.g i2).bx),(aN (p.af.g i2).eK),(aN (p.af.g i2).bm)] [32]).length≤300:=by simp only[Lib.join_cons,Lib.joinTail,List.map_cons,List.map_nil,List.flatten_cons,List.flatten_nil,List.length_append,List.length_cons,List.length_nil];omega
   have Yg:(gV [[109,101,97,115,117,114,101],(p.af.g i2).name,(p.af.g i2).ba,(aN (p.af.g i2).bx),(aN (p.af.g i2).eK),(aN (p.af.g i2).bm)]).length≤301:=by rw[gV,List.length_append,List.length_cons,List.length_nil];omega
   obtain ⟨z13,yg,Sc,xQ,Wi,tx,Yh,K1,C1,K2⟩:=Gi (d:=d+8) (g:=h) (t:=jd) (W:=[[109,101,97,115,117,114,101],(p.af.g i2).name,(p.af.g i2).ba,(aN (p.af.g i2).bx),(aN (p.af.g i2).eK),(aN (p.af.g i2).bm)]) (q:=h7.nx) (n:=6) (c:=6) (op:=false) I3 (pJ _ _ (cH _ _ o! (eS _ _ uU))) uC (eg.has tQ tN) jV o! I4 rfl (by decide) (by decide) o! (by first | omega | (simp only[List.length_append,List.length_nil];omega))
   have xR:Has h yg:=Has.IY Sb ca (Nat.le_refl _) (eg.has tQ tN) o! C1
   have Qw:=eZ 3 false true i2 1 o!
   exact gM.round (by simp only[du,ak,ah]) (pk (d+11) _ _ hh _ yg (VV (aY 3 false false .i64 ((i2:Nat):Int) ((p.af.length:Nat):Int))<|BV q1 ik<|MM ji<|NN kI (fun i=>(Pt i))<|SS kK<|CN 2<|MM (ao 9 0 (AV.str (p.af.g i2).name) bG k!)<|CC<|MM (ao 9 1 (AV.str (p.af.g i2).ba) bG k!)<|CN 2<|MM (ao 3 2 (Zi (p.af.g i2).bx) bG k!)<|CN 2<|MM (ao 3 3 (Zi (p.af.g i2).eK) bG k!)<|CN 2<|MM (ao 3 4 (Zi (p.af.g i2).bm) bG k!)<|EE k8<|EE k9<|EE xb<|NN Sa (fun i=>(AV.slice i 0 6 6 false))<|EE Sc<|HH (ao 9 0 (AV.str (p.af.g i2).name) bG k!)<|HH (show AV.same 20 (AV.str (p.af.g i2).name) (AV.str (p.af.g i2).name)=true from aP 19 _)<|HH (ao 9 0 (AV.str (p.af.g i2).name) bG k!)<|HH (show AV.same 20 (AV.str (p.af.g i2).name) (AV.str (p.af.g i2).name)=true from aP 19 _)<|HH (ao 9 0 (AV.str (p.af.g i2).name) bG k!)<|HH (show AV.same 20 (AV.str (p.af.g i2).name) (AV.str (p.af.g i2).name)=true from aP 19 _)<|HH (ao 9 0 (AV.str (p.af.g i2).name) (pJ _ _ bG) k!)<|HH (show AV.same 20 (AV.str (p.af.g i2).name) (AV.str (p.af.g i2).name)=true from aP 19 _)<|HH (ao 9 1 (AV.str (p.af.g i2).ba) bG k!)<|HH (show AV.same 20 (AV.str (p.af.g i2).ba) (AV.str (p.af.g i2).ba)=true from aP 19 _)<|HH (ao 9 1 (AV.str (p.af.g i2).ba) bG k!)<|HH (show AV.same 20 (AV.str (p.af.g i2).ba) (AV.str (p.af.g i2).ba)=true from aP 19 _)<|HH (ao 9 1 (AV.str (p.af.g i2).ba) bG k!)<|HH (show AV.same 20 (AV.str (p.af.g i2).ba) (AV.str (p.af.g i2).ba)=true from aP 19 _)<|HH (ao 9 1 (AV.str (p.af.g i2).ba) (pJ _ _ bG) k!)<|HH (show AV.same 20 (AV.str (p.af.g i2).ba) (AV.str (p.af.g i2).ba)=true from aP 19 _)<|HH (ao 3 2 (Zi (p.af.g i2).bx) bG k!)<|HH (show AV.same 20 (Zi (p.af.g i2).bx) (Zi (p.af.g i2).bx)=true from aC 19 _ _)<|HH (ao 3 3 (Zi (p.af.g i2).eK) bG k!)<|HH (show AV.same 20 (Zi (p.af.g i2).eK) (Zi (p.af.g i2).eK)=true from aC 19 _ _)<|HH (ao 3 3 (Zi (p.af.g i2).eK) bG k!)<|HH (show AV.same 20 (Zi (p.af.g i2).eK) (Zi (p.af.g i2).eK)=true from aC 19 _ _)<|HH (ao 3 4 (Zi (p.af.g i2).bm) bG k!)<|HH (show AV.same 20 (Zi (p.af.g i2).bm) (Zi (p.af.g i2).bm)=true from aC 19 _ _)<|HH (ao 3 4 (Zi (p.af.g i2).bm) bG k!)<|HH (show AV.same 20 (Zi (p.af.g i2).bm) (Zi (p.af.g i2).bm)=true from aC 19 _ _)<|HH (ao 3 4 (Zi (p.af.g i2).bm) bG k!)<|HH (show AV.same 20 (Zi (p.af.g i2).bm) (Zi (p.af.g i2).bm)=true from aC 19 _ _)<|HH (show ∃o,Ye.get h7.nx=some o∧aK.same o (aK.cells [(AV.str [109,101,97,115,117,114,101]),(AV.str (p.af.g i2).name),(AV.str (p.af.g i2).ba),(AV.str (aN (p.af.g i2).bx)),(AV.str (aN (p.af.g i2).eK)),(AV.str (aN (p.af.g i2).bm))] 9 false)=true from ⟨_,I4,by simp [aK.same,eU,AV.same]⟩)<|VV Qw<|CC<|ZZ) k!) o! _ k! (fun x=>xZ p lR qz th mI qv Kw hG yZ ca Yp ade Yq Kv (i2+1) (jd++gV [[109,101,97,115,117,114,101],(p.af.g i2).name,(p.af.g i2).ba,(aN (p.af.g i2).bx),(aN (p.af.g i2).eK),(aN (p.af.g i2).bm)]) (Pt qz) z13 o! (show (List.length (jd++gV [[109,101,97,115,117,114,101],(p.af.g i2).name,(p.af.g i2).ba,(aN (p.af.g i2).bx),(aN (p.af.g i2).eK),(aN (p.af.g i2).bm)])≤3500*p.ab.length+301*(i2+1)) from (by first | omega | (simp only[List.length_append,List.length_nil,List.length_cons];omega))) x yg xQ xR o! (C1 _ _ o! ie (pJ _ _ (cH _ _ o! (eS _ _ gn)))) tx (.inr rfl) Yh (K2 _ (I3 _ _ (pJ _ _ (cH _ _ o! (eS _ _ gn)))) ie) K1)
def d_ (p:bO):Nat→Nat→List UInt8→List UInt8
 | 0,_,je=>je
 | QG+1,i3,je=>d_ p QG (i3+1) (je++gV [[97,108,97,114,109],(p.ab.g (p.ai.g i3).az.toNat).name,(aN (p.ai.g i3).level),(aN (p.ai.g i3).bq),(p.af.g (p.ai.g i3).measure.toNat).name])
theorem x7 {d:Nat} {h:ax} (p:bO) (oX:Nat) (x8:Nat) (uP:aJ h p.au p.ai) (rZ:aJ h p.ae p.ab) (pV:aJ h p.ag p.af) (Nx:aH.ok h p) (hG:h.get 1=some (aK.cells (bE .u64 n6) 162 true)) (C3:oY p) (ca:Tidy h) (Yr:h.nx≤oX) (adf:h.nx≤x8) (Ys:x8≠oX):∀(k_ i_:Nat) (je:List UInt8) (qE:AV) (oP:AV) (_:i_+k_=p.ai.length) (_:(List.length je≤3500*p.ab.length+301*p.af.length+301*i_)) (x:Nat→AV) (hh:ax) (aF:Tidy hh) (aG:Has h hh) (oM:h.nx≤hh.nx) (gL:hh.get oX=some (aK.cells [p.ae,p.ag,p.au] 26 false)) (NV:hh.get x8=some (aK.cells [qE,oP] 61 false)) (uD:qE= .dc∨qE= .ptr x8 0) (tR:eg 5 h hh oP (vA je)) (ig:cz oP oX) (jW:cz oP x8),gM (σ:=List UInt8) (ζ:=AV×AV) (cT (d+11)) I2 ⟨((x 0)::(Pt oX)::rx x 2 3 ((Pt x8)::(AV.func 19 [] [(Pt x8)])::(AV.func 22 [] [])::rx x 8 102 (p.au::(Zn p.ai.length)::(Zn i_)::rx x 113 32 []))),hh,[],.no⟩ (.exit 6) hh (fun r z y=>((y 0)::(Pt oX)::rx y 2 3 ((Pt x8)::(AV.func 19 [] [(Pt x8)])::(AV.func 22 [] [])::rx y 8 102 (p.au::(Zn p.ai.length)::rx y 112 33 [])))) (fun r z hk=>Has h hk∧hk.get oX=some (aK.cells [p.ae,p.ag,p.au] 26 false)∧hk.get x8=some (.cells [z.1,z.2] 61 false)∧(z.1= .dc∨z.1= .ptr x8 0)∧eg 5 h hk z.2 (vA r)∧cz z.2 oX∧cz z.2 x8∧(List.length r≤3500*p.ab.length+301*p.af.length+301*p.ai.length)) (d_ p k_ i_ je)
 | 0,i3,je,qE,oP,jh,v7,x,hh,aF,aG,oM,gL,NV,uD,tR,ig,jW=>by
   have BZ:=uP.small
   have B0:=rZ.small
   have B1:=pV.small
   have QH:=aF _ _ gL
   have adg:=aF _ _ NV
   have K0:=C3.lens
   have fa_:=fun hj=>C3.IB (j:=i3) hj
   have q1:(decide (((i3:Nat):Int)<((p.ai.length:Nat):Int)))=false:=d!
   exact gM.out je (qE,oP) rfl (pk (d+11) _ _ hh _ hh (VV (aY 3 false false .i64 ((i3:Nat):Int) ((p.ai.length:Nat):Int))<|BB q1<|ZZ) k!) aF o! ⟨aG,gL,NV,uD,tR,ig,jW,(show (List.length je≤3500*p.ab.length+301*p.af.length+301*p.ai.length) from (by first | omega | (simp only[List.length_append,List.length_nil,List.length_cons];omega)))⟩ k!
 | QG+1,i3,je,qE,oP,jh,v7,x,hh,aF,aG,oM,gL,NV,uD,tR,ig,jW=>by
   have BZ:=uP.small
   have B0:=rZ.small
   have B1:=pV.small
   have QH:=aF _ _ gL
   have adg:=aF _ _ NV
   have K0:=C3.lens
   have fa_:=fun hj=>C3.IB (j:=i3) hj
   have q1:(decide (((i3:Nat):Int)<((p.ai.length:Nat):Int)))=true:=d!
   obtain ⟨p3,q4,eD⟩:=uP.elem (i:=i3) o!
   have ik:b8 env (some (.slice 71)) (some p.au) (some (Zn i3))=some (AV.ptr p3 q4):=eD
   have ji:bS env hh 71 (AV.ptr p3 q4)=some (AV.agg [(Zi (p.ai.g i3).az),(Zi (p.ai.g i3).level),(Zi (p.ai.g i3).bq),(Zi (p.ai.g i3).measure)]):=(uP.has aG).load o! eD
   obtain ⟨h6,kI,kJ,BK,n7,eS⟩:=lk aF (aK.cells [(Zi 0),(Zi 0),(Zi 0),(Zi 0)] 71 false)
   have iC:Has h h6:=aG.trans eS
   have rH:Has hh h6:=eS
   obtain ⟨h7,kK,dK,xm,bG,cH⟩:=vF (t:=71) (n:=4) (i:=hh.nx) (L:=[(Zi (p.ai.g i3).az),(Zi (p.ai.g i3).level),(Zi (p.ai.g i3).bq),(Zi (p.ai.g i3).measure)]) kJ n7 k! rfl rfl (by simp only[AV.cells,List.all_cons,List.all_nil,Bool.and_true,Bool.and_self,kC,iA,kD,kE,fY,nW,nX,nY,nZ,n4,kF])
   have cK:Has h h7:=Has.eB iC cH ca o!
   have iG:Has hh h7:=Has.eB rH cH aF o!
   obtain ⟨p9,Y7,Nw⟩:=rZ.elem (i:=((p.ai.g i3).az).toNat) o!
   have VN:b8 env (some (.slice 43)) (some p.ae) (some (Zi (p.ai.g i3).az))=some (AV.ptr p9 Y7):=by rw[show (((p.ai.g i3).az):Int)=(((p.ai.g i3).az.toNat:Nat):Int) by omega];exact Nw
   have Iq:bS env h7 9 (AV.ptr p9 (Y7+0))=some (AV.str (p.ab.g (p.ai.g i3).az.toNat).name):=(rZ.has cK).part (t:=9) (j:=0) o! Nw k! rfl
   obtain ⟨p13,q14,Se⟩:=pV.elem (i:=((p.ai.g i3).measure).toNat) o!
   have adh:b8 env (some (.slice 45)) (some p.ag) (some (Zi (p.ai.g i3).measure))=some (AV.ptr p13 q14):=by rw[show (((p.ai.g i3).measure):Int)=(((p.ai.g i3).measure.toNat:Nat):Int) by omega];exact Se
   have Yt:bS env h7 9 (AV.ptr p13 (q14+0))=some (AV.str (p.af.g (p.ai.g i3).measure.toNat).name):=(pV.has cK).part (t:=9) (j:=0) o! Se k! rfl
   have Yu:(aN (p.ai.g i3).level).length≤30:=h_ o! o!
   have Gs:=ia (d:=d+5) (p.ai.g i3).level (cK _ _ hG) (by first | omega | (simp only[List.length_append,List.length_nil,List.length_cons];omega)) (by first | omega | (simp only[List.length_append,List.length_nil,List.length_cons];omega)) dK
   have Yv:(aN (p.ai.g i3).bq).length≤30:=h_ o! o!
   have k17:=ia (d:=d+5) (p.ai.g i3).bq (cK _ _ hG) (by first | omega | (simp only[List.length_append,List.length_nil,List.length_cons];omega)) (by first | omega | (simp only[List.length_append,List.length_nil,List.length_cons];omega)) dK
   obtain ⟨h18,abg,Wj,ad2,Wk,x9⟩:=lk dK (aK.cells [(AV.str [97,108,97,114,109]),(AV.str (p.ab.g (p.ai.g i3).az.toNat).name),(AV.str (aN (p.ai.g i3).level)),(AV.str (aN (p.ai.g i3).bq)),(AV.str (p.af.g (p.ai.g i3).measure.toNat).name)] 9 false)
   have Sf:Has h h18:=cK.trans x9
   have I6:Has hh h18:=iG.trans x9
   have adi:(Lib.join [[97,108,97,114,109],(p.ab.g (p.ai.g i3).az.toNat).name,(aN (p.ai.g i3).level),(aN (p.ai.g i3).bq),(p.af.g (p.ai.g i3).measure.toNat).name] [32]).length≤300:=by simp only[Lib.join_cons,Lib.joinTail,List.map_cons,List.map_nil,List.flatten_cons,List.flatten_nil,List.length_append,List.length_cons,List.length_nil];omega
   have adj:(gV [[97,108,97,114,109],(p.ab.g (p.ai.g i3).az.toNat).name,(aN (p.ai.g i3).level),(aN (p.ai.g i3).bq),(p.af.g (p.ai.g i3).measure.toNat).name]).length≤301:=by rw[gV,List.length_append,List.length_cons,List.length_nil];omega
   obtain ⟨z20,FT,abh,Io,Ma,abi,adk,Yw,Sg,Yx⟩:=Gi (d:=d+8) (g:=h) (t:=je) (W:=[[97,108,97,114,109],(p.ab.g (p.ai.g i3).az.toNat).name,(aN (p.ai.g i3).level),(aN (p.ai.g i3).bq),(p.af.g (p.ai.g i3).measure.toNat).name]) (q:=h7.nx) (n:=5) (c:=5) (op:=false) Wj (x9 _ _ (cH _ _ o! (eS _ _ NV))) uD (eg.has tR I6) jW o! Wk rfl (by decide) (by decide) o! (by first | omega | (simp only[List.length_append,List.length_nil];omega))
   have xG:Has h FT:=Has.IY Sf ca (Nat.le_refl _) (eg.has tR I6) o! Sg
   have c22:AV.same 20 p.ae p.ae=true:=rZ.same 19
   have c23:AV.same 20 p.ag p.ag=true:=pV.same 19
   have u24:=eZ 3 false true i3 1 o!
   exact gM.round (by simp only[d_,ak,ah]) (pk (d+11) _ _ hh _ FT (VV (aY 3 false false .i64 ((i3:Nat):Int) ((p.ai.length:Nat):Int))<|BV q1 ik<|MM ji<|NN kI (fun i=>(Pt i))<|SS kK<|CN 2<|MM (ao 22 0 p.ae (cH _ _ o! (eS _ _ gL)) k!)<|CC<|MM (ao 3 0 (Zi (p.ai.g i3).az) bG k!)<|VV VN<|CC<|MM Iq<|CN 2<|MM (ao 3 1 (Zi (p.ai.g i3).level) bG k!)<|CN 2<|MM (ao 3 2 (Zi (p.ai.g i3).bq) bG k!)<|CC<|MM (ao 23 1 p.ag (cH _ _ o! (eS _ _ gL)) k!)<|CC<|MM (ao 3 3 (Zi (p.ai.g i3).measure) bG k!)<|VV adh<|CC<|MM Yt<|EE Gs<|EE k17<|NN abg (fun i=>(AV.slice i 0 5 5 false))<|EE abh<|HH (ao 22 0 p.ae (cH _ _ o! (eS _ _ gL)) k!)<|HH c22<|HH (ao 22 0 p.ae (cH _ _ o! (eS _ _ gL)) k!)<|HH c22<|HH (ao 22 0 p.ae (x9 _ _ (cH _ _ o! (eS _ _ gL))) k!)<|HH c22<|HH (ao 3 0 (Zi (p.ai.g i3).az) bG k!)<|HH (show AV.same 20 (Zi (p.ai.g i3).az) (Zi (p.ai.g i3).az)=true from aC 19 _ _)<|HH (ao 3 0 (Zi (p.ai.g i3).az) bG k!)<|HH (show AV.same 20 (Zi (p.ai.g i3).az) (Zi (p.ai.g i3).az)=true from aC 19 _ _)<|HH (ao 3 0 (Zi (p.ai.g i3).az) (x9 _ _ bG) k!)<|HH (show AV.same 20 (Zi (p.ai.g i3).az) (Zi (p.ai.g i3).az)=true from aC 19 _ _)<|HH Iq<|HH (show AV.same 20 (AV.str (p.ab.g (p.ai.g i3).az.toNat).name) (AV.str (p.ab.g (p.ai.g i3).az.toNat).name)=true from aP 19 _)<|HH Iq<|HH (show AV.same 20 (AV.str (p.ab.g (p.ai.g i3).az.toNat).name) (AV.str (p.ab.g (p.ai.g i3).az.toNat).name)=true from aP 19 _)<|HH (show bS env h18 9 (AV.ptr p9 (Y7+0))=some (AV.str (p.ab.g (p.ai.g i3).az.toNat).name) from ((rZ.has Sf).part (t:=9) (j:=0) o! Nw k! rfl))<|HH (show AV.same 20 (AV.str (p.ab.g (p.ai.g i3).az.toNat).name) (AV.str (p.ab.g (p.ai.g i3).az.toNat).name)=true from aP 19 _)<|HH (ao 3 1 (Zi (p.ai.g i3).level) bG k!)<|HH (show AV.same 20 (Zi (p.ai.g i3).level) (Zi (p.ai.g i3).level)=true from aC 19 _ _)<|HH (ao 3 2 (Zi (p.ai.g i3).bq) bG k!)<|HH (show AV.same 20 (Zi (p.ai.g i3).bq) (Zi (p.ai.g i3).bq)=true from aC 19 _ _)<|HH (ao 3 2 (Zi (p.ai.g i3).bq) bG k!)<|HH (show AV.same 20 (Zi (p.ai.g i3).bq) (Zi (p.ai.g i3).bq)=true from aC 19 _ _)<|HH (ao 23 1 p.ag (cH _ _ o! (eS _ _ gL)) k!)<|HH c23<|HH (ao 23 1 p.ag (cH _ _ o! (eS _ _ gL)) k!)<|HH c23<|HH (ao 23 1 p.ag (x9 _ _ (cH _ _ o! (eS _ _ gL))) k!)<|HH c23<|HH (ao 3 3 (Zi (p.ai.g i3).measure) bG k!)<|HH (show AV.same 20 (Zi (p.ai.g i3).measure) (Zi (p.ai.g i3).measure)=true from aC 19 _ _)<|HH (ao 3 3 (Zi (p.ai.g i3).measure) bG k!)<|HH (show AV.same 20 (Zi (p.ai.g i3).measure) (Zi (p.ai.g i3).measure)=true from aC 19 _ _)<|HH (ao 3 3 (Zi (p.ai.g i3).measure) (x9 _ _ bG) k!)<|HH (show AV.same 20 (Zi (p.ai.g i3).measure) (Zi (p.ai.g i3).measure)=true from aC 19 _ _)<|HH Yt<|HH (show AV.same 20 (AV.str (p.af.g (p.ai.g i3).measure.toNat).name) (AV.str (p.af.g (p.ai.g i3).measure.toNat).name)=true from aP 19 _)<|HH Yt<|HH (show AV.same 20 (AV.str (p.af.g (p.ai.g i3).measure.toNat).name) (AV.str (p.af.g (p.ai.g i3).measure.toNat).name)=true from aP 19 _)<|HH (show bS env h18 9 (AV.ptr p13 (q14+0))=some (AV.str (p.af.g (p.ai.g i3).measure.toNat).name) from ((pV.has Sf).part (t:=9) (j:=0) o! Se k! rfl))<|HH (show AV.same 20 (AV.str (p.af.g (p.ai.g i3).measure.toNat).name) (AV.str (p.af.g (p.ai.g i3).measure.toNat).name)=true from aP 19 _)<|HH (show ∃o,h18.get h7.nx=some o∧aK.same o (aK.cells [(AV.str [97,108,97,114,109]),(AV.str (p.ab.g (p.ai.g i3).az.toNat).name),(AV.str (aN (p.ai.g i3).level)),(AV.str (aN (p.ai.g i3).bq)),(AV.str (p.af.g (p.ai.g i3).measure.toNat).name)] 9 false)=true from ⟨_,Wk,by simp [aK.same,eU,AV.same]⟩)<|VV u24<|CC<|ZZ) k!) o! _ k! (fun x=>x7 p oX x8 uP rZ pV Nx hG C3 ca Yr adf Ys QG (i3+1) (je++gV [[97,108,97,114,109],(p.ab.g (p.ai.g i3).az.toNat).name,(aN (p.ai.g i3).level),(aN (p.ai.g i3).bq),(p.af.g (p.ai.g i3).measure.toNat).name]) (Pt x8) z20 o! (show (List.length (je++gV [[97,108,97,114,109],(p.ab.g (p.ai.g i3).az.toNat).name,(aN (p.ai.g i3).level),(aN (p.ai.g i3).bq),(p.af.g (p.ai.g i3).measure.toNat).name])≤3500*p.ab.length+301*p.af.length+301*(i3+1)) from (by first | omega | (simp only[List.length_append,List.length_nil,List.length_cons];omega))) x FT Io xG o! (Sg _ _ o! ig (x9 _ _ (cH _ _ o! (eS _ _ gL)))) abi (.inr rfl) adk (Yx _ (Wj _ _ (x9 _ _ (cH _ _ o! (eS _ _ gL)))) ig) Yw)
def cc (p:bO):List UInt8×Int:=(bif (!decide ((cL p)=0)) then ([],(cL p)) else (bif (decide (65536<(((d_ p p.ai.length 0 (du p p.af.length 0 (db p p.ab.length 0 ([])))).length:Nat):Int))) then ([],3) else ((d_ p p.ai.length 0 (du p p.af.length 0 (db p p.ab.length 0 ([])))),0)))
theorem NW {d:Nat} {h:ax} (p:bO) (dg:aH.ok h p) (hG:h.get 1=some (aK.cells (bE .u64 n6) 162 true)) (ca:Tidy h):cT (d+12) (.fn 6) [(AV.agg [p.ae,p.ag,p.au])] h= .ret (AV.tuple [(AV.str (cc p).1),(Zi (cc p).2)]) h:=by
 have nj:=dg.1.small
 have jP:=dg.2.1.small
 have jQ:=dg.2.2.small
 obtain ⟨h1,br,cD,lh,aA,dC⟩:=lk ca (aK.cells [p.ae,p.ag,p.au] 26 false)
 have bB:Has h h1:=dC
 have k2:=D9 (d:=d) p (aH.mono bB dg) cD
 rcases Bool.eq_false_or_eq_true (!decide ((cL p)=0)) with f0 | f0
 · have e_:=rO f0
   have e:cc p=([],(cL p)):=by simp only[cc,f0,ak,ah]
   rw[e]
   exact aw rfl (aI Tryz.func6 zb rfl (.inr rfl) (pk (d+11) _ _ h _ h1 (NN br (fun i=>(Pt i))<|CN 2<|MM (ao 26 0 (AV.agg [p.ae,p.ag,p.au]) aA k!)<|EE k2<|CN 2<|VV (cf 31 false true .i64 (cL p) 0)<|BB f0<|CN 3<|ZZ) k!) k!) bB rfl
 · have e_:=rP f0
   obtain ⟨h4,abj,adl,aep,adm,US⟩:=lk cD (aK.cells [AV.dc,AV.aX] 61 false)
   have adn:Has h h4:=bB.trans US
   have ln5:cg (some (.slice 43)) (some p.ae)=some (Zn p.ab.length):=dg.1.len
   obtain ⟨⟨zo8,zo9⟩,Jl,h7,mV,dK,XB,Sh,Gj,Yy,UT,Yz,uV,uW,UU⟩:=xY (d:=d) (h:=h) p h.nx h1.nx dg.1 dg.2.1 dg.2.2 dg hG (tp (by assumption)) ca o! o! o! p.ab.length 0 ([]) AV.dc AV.aX o! (show (List.length ([])≤3500*0) from (by first | omega | (simp only[List.length_append,List.length_nil,List.length_cons];omega))) (fun k_=>(((AV.agg [p.ae,p.ag,p.au])::(Pt h.nx)::(AV.str [])::(Zi 0)::(Zi (cL p))::(Pt h1.nx)::(AV.func 19 [] [(Pt h1.nx)])::(AV.func 22 [] [])::AV.undef::AV.undef::AV.undef::AV.undef::AV.undef::AV.undef::AV.undef::AV.undef::(AV.agg [p.ae,p.ag,p.au])::(Zi (cL p))::(Zi (cL p))::(AV.bool (!decide ((cL p)=0)))::AV.undef::(AV.func 19 [] [(Pt h1.nx)])::(Pt h.nx)::p.ae::(Zn p.ab.length)::(Zi 0)::jg 119):List AV).getD k_ AV.undef) h4 adl adn o! (US _ _ aA) adm (.inl rfl) (.inl ⟨rfl,rfl⟩:eg 5 h h4 AV.aX (vA [])) (cz.nil _) (cz.nil _)
   have cK:Has h h7:=Sh
   have uQ:cg (some (.slice 45)) (some p.ag)=some (Zn p.af.length):=dg.2.1.len
   obtain ⟨⟨ado,adp⟩,Si,yg,Mw,xQ,Wi,YA,Gk,UW,Sj,UX,tS,tT,abk⟩:=xZ (d:=d) (h:=h) p h.nx h1.nx dg.2.1 dg.1 dg.2.2 dg hG (tp (by assumption)) ca o! o! o! p.af.length 0 (db p p.ab.length 0 ([])) zo8 zo9 o! (show (List.length (db p p.ab.length 0 ([]))≤3500*p.ab.length+301*0) from (by first | omega | (simp only[List.length_append,List.length_nil,List.length_cons];omega))) (fun k_=>(((Jl 0)::(Pt h.nx)::rx Jl 2 3 ((Pt h1.nx)::(AV.func 19 [] [(Pt h1.nx)])::(AV.func 22 [] [])::rx Jl 8 15 (p.ae::(Zn p.ab.length)::rx Jl 25 57 ((AV.ptr h.nx 1)::p.ag::(Zn p.af.length)::(Zi 0)::rx Jl 86 59 [])))):List AV).getD k_ AV.undef) h7 dK cK o! Gj Yy UT Yz uV uW
   have xR:Has h yg:=YA
   have Nu:cg (some (.slice 71)) (some p.au)=some (Zn p.ai.length):=dg.2.2.len
   obtain ⟨⟨aeq,aer⟩,aa1,mq,uz,qx,V_,YB,abG,Gl,abl,Ay,I7,I8,abm⟩:=x7 (d:=d) (h:=h) p h.nx h1.nx dg.2.2 dg.1 dg.2.1 dg hG (tp (by assumption)) ca o! o! o! p.ai.length 0 (du p p.af.length 0 (db p p.ab.length 0 ([]))) ado adp o! (show (List.length (du p p.af.length 0 (db p p.ab.length 0 ([])))≤3500*p.ab.length+301*p.af.length+301*0) from (by first | omega | (simp only[List.length_append,List.length_nil,List.length_cons];omega))) (fun k_=>(((Si 0)::(Pt h.nx)::rx Si 2 3 ((Pt h1.nx)::(AV.func 19 [] [(Pt h1.nx)])::(AV.func 22 [] [])::rx Si 8 75 (p.ag::(Zn p.af.length)::rx Si 85 24 ((AV.ptr h.nx 2)::p.au::(Zn p.ai.length)::(Zi 0)::rx Si 113 32 [])))):List AV).getD k_ AV.undef) yg xQ xR o! Gk UW Sj UX tS tT
   have pD:Has h mq:=YB
   rcases Bool.eq_false_or_eq_true (decide (65536<(((d_ p p.ai.length 0 (du p p.af.length 0 (db p p.ab.length 0 ([])))).length:Nat):Int))) with f1 | f1
   · have fK:=of_decide_eq_true f1
     have e:cc p=([],3):=by simp only[cc,f0,f1,ak,ah]
     rw[e]
     exact aw rfl (aI Tryz.func6 zb rfl (.inr rfl) (pk (d+11) _ _ h _ mq (NN br (fun i=>(Pt i))<|CN 2<|MM (ao 26 0 (AV.agg [p.ae,p.ag,p.au]) aA k!)<|EE k2<|CN 2<|VV (cf 31 false true .i64 (cL p) 0)<|BB f0<|NN abj (fun i=>(Pt i))<|CN 4<|MM (ao 22 0 p.ae (US _ _ aA) k!)<|VV ln5<|CC<|LL mV<|CC<|MM (ao 23 1 p.ag Gj k!)<|VV uQ<|CC<|LL Mw<|CC<|MM (ao 24 2 p.au Gk k!)<|VV Nu<|CC<|LL uz<|EE (show (cT (d+11)) (.fn 23) [(Pt h1.nx)] mq= .ret (Zn (d_ p p.ai.length 0 (du p p.af.length 0 (db p p.ab.length 0 ([])))).length) mq from (aa9 (d:=d+10) qx Gl Ay))<|VV (b7 3 false true .i64 (((d_ p p.ai.length 0 (du p p.af.length 0 (db p p.ab.length 0 ([])))).length:Nat):Int) 65536)<|BB f1<|CN 2<|ZZ) k!) k!) pD rfl
   · have fK:=of_decide_eq_false f1
     obtain ⟨h21,abn,ad3,ad4,YC⟩:=acW (d:=d+10) (g:=h) (t:=(d_ p p.ai.length 0 (du p p.af.length 0 (db p p.ab.length 0 ([]))))) qx Gl Ay (by first | omega | (simp only[List.length_append,List.length_nil,List.length_cons];omega))
     have abo:Has h h21:=Has.IY (i:=h1.nx) pD ca (Nat.le_refl _) Ay o! (fun k w _=>YC k w)
     have e:cc p=((d_ p p.ai.length 0 (du p p.af.length 0 (db p p.ab.length 0 ([])))),0):=by simp only[cc,f0,f1,ak,ah]
     rw[e]
     exact aw rfl (aI Tryz.func6 zb rfl (.inr rfl) (pk (d+11) _ _ h _ h21 (NN br (fun i=>(Pt i))<|CN 2<|MM (ao 26 0 (AV.agg [p.ae,p.ag,p.au]) aA k!)<|EE k2<|CN 2<|VV (cf 31 false true .i64 (cL p) 0)<|BB f0<|NN abj (fun i=>(Pt i))<|CN 4<|MM (ao 22 0 p.ae (US _ _ aA) k!)<|VV ln5<|CC<|LL mV<|CC<|MM (ao 23 1 p.ag Gj k!)<|VV uQ<|CC<|LL Mw<|CC<|MM (ao 24 2 p.au Gk k!)<|VV Nu<|CC<|LL uz<|EE (show (cT (d+11)) (.fn 23) [(Pt h1.nx)] mq= .ret (Zn (d_ p p.ai.length 0 (du p p.af.length 0 (db p p.ab.length 0 ([])))).length) mq from (aa9 (d:=d+10) qx Gl Ay))<|VV (b7 3 false true .i64 (((d_ p p.ai.length 0 (du p p.af.length 0 (db p p.ab.length 0 ([])))).length:Nat):Int) 65536)<|BB f1<|EE abn<|CN 2<|ZZ) k!) k!) abo rfl
end
end Go.Proofs.aM
