import Derived.Test.YtaglmdbkfcpbbaaGreatW0
import Derived.Test.YtaglmdbkfcpbbaaGreatW4
import Derived.Test.YtaglmdbkfcpbbaaGreatW2
import Derived.Test.YtaglmdbkfcpbbaaGreatW3
namespace Go.Proofs.bt
open Go.Proofs Ab
set_option maxRecDepth 100000
set_option maxHeartbeats 4000000
set_option linter.unusedVariables false
set_option linter.unusedSimpArgs false
noncomputable def nq:Code:=(Tryz.f29.body).getD .skip
theorem DI:Tryz.f29.body=some nq:=by kernel_rfl
noncomputable def lM:Code:=(dD nq).getD 0 .skip
def ep (l_:List aO) (worker:List UInt8):Nat→Nat→List aO→List aO
 | 0,_,cY=>cY
 | eG+1,i0,cY=>(bif (decide (((l_.g i0).worker)=worker)) then ep l_ worker eG (i0+1) (cY++([(l_.g i0)])) else ep l_ worker eG (i0+1) cY)
theorem nr {d:Nat} {h:ar} (worker:List UInt8) (bA:AV) (l_:List aO) (bk:worker.length<2^60) (ft:bD h bA l_) (vw:l_.length≤128) (b4:Tidy h):∀(k_ i_:Nat) (cY:List aO) (z0:AV) (_:i_+k_=l_.length) (x:Nat→AV) (hh:ar) (bb:Tidy hh) (aR:Has h hh) (DJ:h.nx≤hh.nx) (L6:iV h hh z0 cY) (KT:∀y∈cY,aD.ok hh y) (S9:cY.length≤i_),kO (eD (d)) lM ⟨((x 0)::(AV.str worker)::rx x 2 3 (z0::(x 6)::(x 7)::bA::(AV.int .i64 ((l_.length:Nat):Int))::(AV.int .i64 ((i_:Nat):Int))::rx x 11 13 [])),hh,[],.no⟩ (.exit 0) h (fun r z y=>((y 0)::(AV.str worker)::rx y 2 3 (z::(y 6)::(y 7)::bA::(AV.int .i64 ((l_.length:Nat):Int))::rx y 10 14 []))) (fun r=>r) l_.length (ep l_ worker k_ i_ cY)
 | 0,i0,cY,z0,qo,x,hh,bb,aR,DJ,L6,KT,S9=>by
   have lC:=ft.small
   have q1:(decide (((i0:Nat):Int)<((l_.length:Nat):Int)))=false:=d!
   have ev:=pk (d) lM ((x 0)::(AV.str worker)::rx x 2 3 (z0::(x 6)::(x 7)::bA::(AV.int .i64 ((l_.length:Nat):Int))::(AV.int .i64 ((i0:Nat):Int))::rx x 11 13 [])) hh (.exit 0) hh (VV (bT 3 false false .i64 ((i0:Nat):Int) ((l_.length:Nat):Int))<|BB q1<|ZZ) k!
   exact kO.out cY z0 rfl ev ⟨bb,aR,by omega⟩ L6 KT (by first | omega | (simp;omega)) k!
 | eG+1,i0,cY,z0,qo,x,hh,bb,aR,DJ,L6,KT,S9=>by
   have lC:=ft.small
   rcases Bool.eq_false_or_eq_true (decide (((l_.g i0).worker)=worker)) with f1 | f1
   · have jn:=of_decide_eq_true f1
     have q1:(decide (((i0:Nat):Int)<((l_.length:Nat):Int)))=true:=d!
     obtain ⟨p3,q4,dG⟩:=(ft.has aR).elem (i:=i0) o!
     have hL:c_ env (some (.slice 37)) (some bA) (some (AV.int .i64 ((i0:Nat):Int)))=some (AV.ptr p3 q4):=dG
     have mB:bN env hh 37 (AV.ptr p3 q4)=some (AV.agg [(AV.str ((l_.g i0).worker)),(AV.int .i64 ((l_.g i0).ab)),(AV.int .i64 ((l_.g i0).aP)),(AV.int .i64 ((l_.g i0).leave)),(AV.int .i64 ((l_.g i0).out))]):=(ft.has aR).load o! dG
     obtain ⟨h6,gO,eQ,nL,gP,bI⟩:=cj bb (aH.cells [(AV.str []),(AV.int .i64 0),(AV.int .i64 0),(AV.int .i64 0),(AV.int .i64 0)] 37 false)
     have ek:Has hh h6:=bI
     obtain ⟨h7,iW,eA,oO,cc,cL⟩:=dW (t:=37) (n:=5) (i:=hh.nx) (L:=[(AV.str ((l_.g i0).worker)),(AV.int .i64 ((l_.g i0).ab)),(AV.int .i64 ((l_.g i0).aP)),(AV.int .i64 ((l_.g i0).leave)),(AV.int .i64 ((l_.g i0).out))]) eQ gP k! rfl rfl (by simp only[AV.cells,List.all_cons,List.all_nil,Bool.and_true,Bool.and_self,bP,bB,bQ,bR,bl,cm,cn,cq,cr,ct,bS])
     have di:Has hh h7:=Has.aU ek cL bb o!
     obtain ⟨h9,BV,dZ,vx,eZ,pQ⟩:=cj eA (aH.cells [(AV.str ((l_.g i0).worker)),(AV.int .i64 ((l_.g i0).ab)),(AV.int .i64 ((l_.g i0).aP)),(AV.int .i64 ((l_.g i0).leave)),(AV.int .i64 ((l_.g i0).out))] 37 false)
     have g8:Has hh h9:=di.trans pQ
     obtain ⟨OJ,nG,Ql,j0,OL,S_,KU,V'⟩:=iV.app (tys:= #[25,25]) (l:=cY) (m:=[(l_.g i0)]) (x:=(AV.slice h7.nx 0 1 1 false)) dZ b4 (aR.trans g8) o! (L6.has g8) rfl (sR (x:=(l_.g i0)) eZ) (by simp [aD.c,aO.c,AV.scalar]) (by first | omega | (simp;omega)) rfl rfl k! k! (bytes:=48) k! (z0:=(AV.agg [(AV.str []),(AV.int .i64 0),(AV.int .i64 0),(AV.int .i64 0),(AV.int .i64 0)])) k! rfl (by decide)
     have Qm:∀y∈(cY++([(l_.g i0)])),aD.ok nG y:=xa (D:=aO) (yw (BI g8 KT) (ok_one (aD.mono g8 ((ft.has aR).ok (i:=i0) o!))))
     have S8:=hJ 3 false true i0 1 o!
     have ev:=pk (d) lM ((x 0)::(AV.str worker)::rx x 2 3 (z0::(x 6)::(x 7)::bA::(AV.int .i64 ((l_.length:Nat):Int))::(AV.int .i64 ((i0:Nat):Int))::rx x 11 13 [])) hh .normal nG (VV (bT 3 false false .i64 ((i0:Nat):Int) ((l_.length:Nat):Int))<|BB q1<|VV hL<|MM mB<|NN gO (fun i=>(AV.ptr i 0))<|SS iW<|CC<|MM (aw 9 0 (AV.str ((l_.g i0).worker)) cc k!)<|CC<|VV (Ie 9 false false ((l_.g i0).worker) worker)<|BB f1<|CC<|MM (aw 37 0 (AV.agg [(AV.str ((l_.g i0).worker)),(AV.int .i64 ((l_.g i0).ab)),(AV.int .i64 ((l_.g i0).aP)),(AV.int .i64 ((l_.g i0).leave)),(AV.int .i64 ((l_.g i0).out))]) cc k!)<|NN BV (fun i=>(AV.slice i 0 1 1 false))<|PP (show da env h9 #[25,25] z0 (AV.slice h7.nx 0 1 1 false)=some (OJ,nG) from Ql)<|CC<|VV S8<|CC<|ZZ) k!
     exact kO.round (by simp only[ep,f1,cond_true,cond_false]) ev (fun x=>((x 0)::(AV.str worker)::rx x 2 3 (OJ::(x 6)::(x 7)::bA::(AV.int .i64 ((l_.length:Nat):Int))::(AV.int .i64 (((i0+1):Nat):Int))::rx x 11 13 []))) k! (fun x=>nr worker bA l_ bk ft vw b4 eG (i0+1) (cY++([(l_.g i0)])) OJ o! x nG j0 S_ o! KU Qm (by first | omega | (simp;omega)))
   · have jn:=of_decide_eq_false f1
     have q1:(decide (((i0:Nat):Int)<((l_.length:Nat):Int)))=true:=d!
     obtain ⟨p3,q4,dG⟩:=(ft.has aR).elem (i:=i0) o!
     have hL:c_ env (some (.slice 37)) (some bA) (some (AV.int .i64 ((i0:Nat):Int)))=some (AV.ptr p3 q4):=dG
     have mB:bN env hh 37 (AV.ptr p3 q4)=some (AV.agg [(AV.str ((l_.g i0).worker)),(AV.int .i64 ((l_.g i0).ab)),(AV.int .i64 ((l_.g i0).aP)),(AV.int .i64 ((l_.g i0).leave)),(AV.int .i64 ((l_.g i0).out))]):=(ft.has aR).load o! dG
     obtain ⟨h6,gO,eQ,nL,gP,bI⟩:=cj bb (aH.cells [(AV.str []),(AV.int .i64 0),(AV.int .i64 0),(AV.int .i64 0),(AV.int .i64 0)] 37 false)
     have ek:Has hh h6:=bI
     obtain ⟨h7,iW,eA,oO,cc,cL⟩:=dW (t:=37) (n:=5) (i:=hh.nx) (L:=[(AV.str ((l_.g i0).worker)),(AV.int .i64 ((l_.g i0).ab)),(AV.int .i64 ((l_.g i0).aP)),(AV.int .i64 ((l_.g i0).leave)),(AV.int .i64 ((l_.g i0).out))]) eQ gP k! rfl rfl (by simp only[AV.cells,List.all_cons,List.all_nil,Bool.and_true,Bool.and_self,bP,bB,bQ,bR,bl,cm,cn,cq,cr,ct,bS])
     have di:Has hh h7:=Has.aU ek cL bb o!
     have u9:=hJ 3 false true i0 1 o!
     have ev:=pk (d) lM ((x 0)::(AV.str worker)::rx x 2 3 (z0::(x 6)::(x 7)::bA::(AV.int .i64 ((l_.length:Nat):Int))::(AV.int .i64 ((i0:Nat):Int))::rx x 11 13 [])) hh .normal h7 (VV (bT 3 false false .i64 ((i0:Nat):Int) ((l_.length:Nat):Int))<|BB q1<|VV hL<|MM mB<|NN gO (fun i=>(AV.ptr i 0))<|SS iW<|CC<|MM (aw 9 0 (AV.str ((l_.g i0).worker)) cc k!)<|CC<|VV (Ie 9 false false ((l_.g i0).worker) worker)<|BB f1<|VV u9<|CC<|ZZ) k!
     exact kO.round (by simp only[ep,f1,cond_true,cond_false]) ev (fun x=>((x 0)::(AV.str worker)::rx x 2 3 (z0::(x 6)::(x 7)::bA::(AV.int .i64 ((l_.length:Nat):Int))::(AV.int .i64 (((i0+1):Nat):Int))::rx x 11 13 []))) k! (fun x=>nr worker bA l_ bk ft vw b4 eG (i0+1) cY z0 o! x h7 eA (aR.trans di) o! (L6.has di) (xa (D:=aO) KT) (by first | omega | (simp;omega)))
def aM (l_:List aO) (worker:List UInt8):List aO:=(ep l_ worker l_.length 0 ([]))
theorem ma {d:Nat} {h:ar} {bA:AV} (l_:List aO) (worker:List UInt8) (bE:bD h bA l_) (bf:worker.length<2^60) (S':l_.length≤128) (b4:Tidy h):∃z hk,eD (d+1) (.fn 29) [bA,(AV.str worker)] h= .ret z hk∧cG h hk∧bD hk z (aM l_ worker):=by
 have pP:=bE.small
 have hS:cJ (some (.slice 37)) (some bA)=some (AV.int .i64 ((l_.length:Nat):Int)):=bE.len
 obtain ⟨Wa,NL,h3,iz,hT,XF,KV,Ta⟩:=nr (d:=d) (h:=h) worker bA l_ bf bE o! b4 l_.length 0 ([]) AV.aI o! (fun k_=>((bA::(AV.str worker)::AV.undef::AV.undef::AV.aI::AV.aI::AV.undef::AV.undef::bA::(AV.int .i64 ((l_.length:Nat):Int))::(AV.int .i64 0)::cz 13):List AV).getD k_ AV.undef) h b4 (Has.refl _) (Nat.le_refl _) (.inl ⟨.inl rfl,rfl⟩) (fun y hy=>by cases hy) (Nat.zero_le _)
 have Wb:(ep l_ worker l_.length 0 ([])).length≤l_.length:=Ta
 have Wc:bD h3 Wa (ep l_ worker l_.length 0 ([])):=iV.rows XF o! KV
 have kA:=hT.y
 have BJ:h.nx≤h3.nx:=hT.n
 have iA:Has h h3:=hT.a
 have ev:=pk (d) nq (bA::(AV.str worker)::cz 22) h .ret h3 (CN 3<|VV hS<|CC<|LL iz<|CN 2<|ZZ) k!
 have e:aM l_ worker=(ep l_ worker l_.length 0 ([])):=by simp only[aM,cond_true,cond_false]
 rw[e]
 have oz:=iV.le (h0:=h) XF o!
 exact ⟨Wa,iy rfl (bz Tryz.func29 DI k! (.inr rfl) ev k!) b4 ⟨kA,iA,by omega⟩ (P:=fun hh=>bD hh Wa (ep l_ worker l_.length 0 ([]))) (iV.rows oz (by first | omega | decide) KV) fun v=>iV.S5 oz v⟩
noncomputable def lN:Code:=(Tryz.f10.body).getD .skip
theorem yH:Tryz.f10.body=some lN:=by kernel_rfl
noncomputable def pR:Code:=(dD lN).getD 0 .skip
def g9 (t:aK) (l_:List aO):Nat→Nat→List Int→List Int
 | 0,_,wM=>wM
 | eG+1,i0,wM=>g9 t l_ eG (i0+1) (wM++[(c9 (⟨.aI,t.rows,t.rest,t.day,.aI,(aM (l_.take i0) ((l_.g i0).worker)),((l_.g i0).worker),((l_.g i0).ab),((l_.g i0).aP),((l_.g i0).leave),((l_.g i0).out)⟩:fj))])
theorem sr {d:Nat} {h:ar} (bA:AV) (l_:List aO) (t:aK) (cC:Nat) (bk:bD h bA l_) (ft:bD h t.ak t.rows) (l8:aD.ok h t) (vw:l_.length≤128) (b4:Tidy h) (dg:h.get cC=some (aH.cells [t.ak,(AV.int .i64 t.rest),(AV.int .i64 t.day)] 24 false)):∀(k_ i_:Nat) (wM:List Int) (z0:AV) (_:i_+k_=l_.length) (x:Nat→AV) (hh:ar) (bb:Tidy hh) (aR:Has h hh) (DJ:h.nx≤hh.nx) (L6:ij 81 h hh z0 (zs .u8 wM)) (S9:wM.length≤i_),kN (eD (d+7)) pR ⟨((x 0)::bA::(AV.ptr cC 0)::rx x 3 4 (z0::rx x 8 8 (bA::(AV.int .i64 ((l_.length:Nat):Int))::(AV.int .i64 ((i_:Nat):Int))::rx x 19 19 []))),hh,[],.no⟩ (.exit 0) h 81 (fun r z y=>((y 0)::bA::(AV.ptr cC 0)::rx y 3 4 (z::rx y 8 8 (bA::(AV.int .i64 ((l_.length:Nat):Int))::rx y 18 20 [])))) (fun r=>zs .u8 r) l_.length (g9 t l_ k_ i_ wM)
 | 0,i0,wM,z0,qo,x,hh,bb,aR,DJ,L6,S9=>by
   have fK:=bk.small
   have lC:=ft.small
   have sW:=b4 _ _ dg
   have q1:(decide (((i0:Nat):Int)<((l_.length:Nat):Int)))=false:=d!
   have ev:=pk (d+7) pR ((x 0)::bA::(AV.ptr cC 0)::rx x 3 4 (z0::rx x 8 8 (bA::(AV.int .i64 ((l_.length:Nat):Int))::(AV.int .i64 ((i0:Nat):Int))::rx x 19 19 []))) hh (.exit 0) hh (VV (bT 3 false false .i64 ((i0:Nat):Int) ((l_.length:Nat):Int))<|BB q1<|ZZ) k!
   exact kN.out wM z0 rfl ev ⟨bb,aR,by omega⟩ L6 (by show (zs _ _).length≤_;rw[mr];omega) k!
 | eG+1,i0,wM,z0,qo,x,hh,bb,aR,DJ,L6,S9=>by
   have fK:=bk.small
   have lC:=ft.small
   have sW:=b4 _ _ dg
   have q1:(decide (((i0:Nat):Int)<((l_.length:Nat):Int)))=true:=d!
   obtain ⟨p3,q4,dG⟩:=(bk.has aR).elem (i:=i0) o!
   have hL:c_ env (some (.slice 37)) (some bA) (some (AV.int .i64 ((i0:Nat):Int)))=some (AV.ptr p3 q4):=dG
   have mB:bN env hh 37 (AV.ptr p3 q4)=some (AV.agg [(AV.str ((l_.g i0).worker)),(AV.int .i64 ((l_.g i0).ab)),(AV.int .i64 ((l_.g i0).aP)),(AV.int .i64 ((l_.g i0).leave)),(AV.int .i64 ((l_.g i0).out))]):=(bk.has aR).load o! dG
   obtain ⟨h6,gO,eQ,nL,gP,bI⟩:=cj bb (aH.cells [(AV.str []),(AV.int .i64 0),(AV.int .i64 0),(AV.int .i64 0),(AV.int .i64 0)] 37 false)
   have ek:Has hh h6:=bI
   obtain ⟨h7,iW,eA,oO,cc,cL⟩:=dW (t:=37) (n:=5) (i:=hh.nx) (L:=[(AV.str ((l_.g i0).worker)),(AV.int .i64 ((l_.g i0).ab)),(AV.int .i64 ((l_.g i0).aP)),(AV.int .i64 ((l_.g i0).leave)),(AV.int .i64 ((l_.g i0).out))]) eQ gP k! rfl rfl (by simp only[AV.cells,List.all_cons,List.all_nil,Bool.and_true,Bool.and_self,bP,bB,bQ,bR,bl,cm,cn,cq,cr,ct,bS])
   have di:Has hh h7:=Has.aU ek cL bb o!
   obtain ⟨r8,BQ,BR⟩:=(bk.has aR).pre (t:=25) k! (i:=i0) o!
   have NR:fR env 25 bA (none) (some (AV.int .i64 ((i0:Nat):Int))) (none)=some r8:=BQ
   obtain ⟨OJ,L7,Tc,DK,Qo⟩:=ma (d:=d+6) (l_.take i0) ((l_.g i0).worker) (BR.has di) ((bk.has aR).ok (i:=i0) o!) (by first | omega | assumption | (simp only[List.length_set,List.length_replicate,List.length_append,List.length_cons,List.length_nil,List.nil_append]<;>omega) | (rw[List.length_take];omega)) eA
   have KW:=DK.y
   have XG:h7.nx≤L7.nx:=DK.n
   have G6:Has hh L7:=di.trans DK.a
   have Wf:=Qo.small
   have Wg:uO env 84 [(0,(AV.agg [t.ak,(AV.int .i64 t.rest),(AV.int .i64 t.day)])),(1,OJ),(2,(AV.agg [(AV.str ((l_.g i0).worker)),(AV.int .i64 ((l_.g i0).ab)),(AV.int .i64 ((l_.g i0).aP)),(AV.int .i64 ((l_.g i0).leave)),(AV.int .i64 ((l_.g i0).out))]))]=some (AV.agg [t.ak,(AV.int .i64 t.rest),(AV.int .i64 t.day),OJ,(AV.str ((l_.g i0).worker)),(AV.int .i64 ((l_.g i0).ab)),(AV.int .i64 ((l_.g i0).aP)),(AV.int .i64 ((l_.g i0).leave)),(AV.int .i64 ((l_.g i0).out))]):=by rcases Qo.known with e_ | e_ | ⟨_,_,_,_,_,e_,_⟩<;>rw[e_]<;>kernel_rfl
   have Qa:(eD (d+7)) (.fn 30) [(AV.agg [t.ak,(AV.int .i64 t.rest),(AV.int .i64 t.day),OJ,(AV.str ((l_.g i0).worker)),(AV.int .i64 ((l_.g i0).ab)),(AV.int .i64 ((l_.g i0).aP)),(AV.int .i64 ((l_.g i0).leave)),(AV.int .i64 ((l_.g i0).out))])] L7= .ret (AV.int .u8 (c9 (⟨.aI,t.rows,t.rest,t.day,.aI,(aM (l_.take i0) ((l_.g i0).worker)),((l_.g i0).worker),((l_.g i0).ab),((l_.g i0).aP),((l_.g i0).leave),((l_.g i0).out)⟩:fj))) L7:=by have q_:=Aw (d:=d+1) (⟨t.ak,t.rows,t.rest,t.day,OJ,(aM (l_.take i0) ((l_.g i0).worker)),((l_.g i0).worker),((l_.g i0).ab),((l_.g i0).aP),((l_.g i0).leave),((l_.g i0).out)⟩:fj) ⟨((ft.has aR).has G6),Qo,((bk.has aR).ok (i:=i0) o!)⟩ KW;rw[Ax] at q_;exact q_
   obtain ⟨n4,Td,lq,Te,G7,OM⟩:=cj KW (aH.cells [(AV.int .u8 (c9 (⟨.aI,t.rows,t.rest,t.day,.aI,(aM (l_.take i0) ((l_.g i0).worker)),((l_.g i0).worker),((l_.g i0).ab),((l_.g i0).aP),((l_.g i0).leave),((l_.g i0).out)⟩:fj)))] 81 false)
   have jb:Has hh n4:=G6.trans OM
   have RH:Has L7 n4:=OM
   obtain ⟨Wh,wN,Qp,rl,ON,Tf,Wi⟩:=ij.SZ (k:= .u8) (h0:=h) (tys:= #[32,32]) (v:=(c9 (⟨.aI,t.rows,t.rest,t.day,.aI,(aM (l_.take i0) ((l_.g i0).worker)),((l_.g i0).worker),((l_.g i0).ab),((l_.g i0).aP),((l_.g i0).leave),((l_.g i0).out)⟩:fj))) (L:=wM) lq b4 (aR.trans jb) o! (L6.has jb) G7 (by first | omega | (simp;omega)) rfl rfl k! k! k! (bytes:=1) k! (z0:=AV.int .u8 0) k! rfl (by decide)
   have XH:AV.same 20 (AV.agg [t.ak,(AV.int .i64 t.rest),(AV.int .i64 t.day)]) (AV.agg [t.ak,(AV.int .i64 t.rest),(AV.int .i64 t.day)])=true:=fq 18 (kz (ft.has aR).same (kz (fun n=>aQ n _ _) (kz (fun n=>aQ n _ _) Dz)))
   have XI:AV.same 20 (AV.agg [(AV.str ((l_.g i0).worker)),(AV.int .i64 ((l_.g i0).ab)),(AV.int .i64 ((l_.g i0).aP)),(AV.int .i64 ((l_.g i0).leave)),(AV.int .i64 ((l_.g i0).out))]) (AV.agg [(AV.str ((l_.g i0).worker)),(AV.int .i64 ((l_.g i0).ab)),(AV.int .i64 ((l_.g i0).aP)),(AV.int .i64 ((l_.g i0).leave)),(AV.int .i64 ((l_.g i0).out))])=true:=fq 18 (kz (fun n=>iI n _) (kz (fun n=>aQ n _ _) (kz (fun n=>aQ n _ _) (kz (fun n=>aQ n _ _) (kz (fun n=>aQ n _ _) Dz)))))
   have Y0:=hJ 3 false true i0 1 o!
   have ev:=pk (d+7) pR ((x 0)::bA::(AV.ptr cC 0)::rx x 3 4 (z0::rx x 8 8 (bA::(AV.int .i64 ((l_.length:Nat):Int))::(AV.int .i64 ((i0:Nat):Int))::rx x 19 19 []))) hh .normal wN (VV (bT 3 false false .i64 ((i0:Nat):Int) ((l_.length:Nat):Int))<|BB q1<|CC<|VV hL<|MM mB<|NN gO (fun i=>(AV.ptr i 0))<|CC<|SS iW<|CC<|MM (aw 24 0 (AV.agg [t.ak,(AV.int .i64 t.rest),(AV.int .i64 t.day)]) (cL _ _ o! (bI _ _ (aR _ _ dg))) k!)<|CN 2<|QQ NR<|CC<|MM (aw 9 0 (AV.str ((l_.g i0).worker)) cc k!)<|MM (aw 37 0 (AV.agg [(AV.str ((l_.g i0).worker)),(AV.int .i64 ((l_.g i0).ab)),(AV.int .i64 ((l_.g i0).aP)),(AV.int .i64 ((l_.g i0).leave)),(AV.int .i64 ((l_.g i0).out))]) cc k!)<|EE Tc<|QQ Wg<|EE Qa<|NN Td (fun i=>(AV.slice i 0 1 1 false))<|PP (show da env n4 #[32,32] z0 (AV.slice L7.nx 0 1 1 false)=some (Wh,wN) from Qp)<|CC<|HH (aw 24 0 (AV.agg [t.ak,(AV.int .i64 t.rest),(AV.int .i64 t.day)]) (cL _ _ o! (bI _ _ (aR _ _ dg))) k!)<|HH XH<|HH (aw 24 0 (AV.agg [t.ak,(AV.int .i64 t.rest),(AV.int .i64 t.day)]) (DK.a _ _ (cL _ _ o! (bI _ _ (aR _ _ dg)))) k!)<|HH XH<|HH (aw 9 0 (AV.str ((l_.g i0).worker)) cc k!)<|HH (show AV.same 20 (AV.str ((l_.g i0).worker)) (AV.str ((l_.g i0).worker))=true from iI 19 _)<|HH (aw 37 0 (AV.agg [(AV.str ((l_.g i0).worker)),(AV.int .i64 ((l_.g i0).ab)),(AV.int .i64 ((l_.g i0).aP)),(AV.int .i64 ((l_.g i0).leave)),(AV.int .i64 ((l_.g i0).out))]) cc k!)<|HH XI<|HH (aw 37 0 (AV.agg [(AV.str ((l_.g i0).worker)),(AV.int .i64 ((l_.g i0).ab)),(AV.int .i64 ((l_.g i0).aP)),(AV.int .i64 ((l_.g i0).leave)),(AV.int .i64 ((l_.g i0).out))]) (DK.a _ _ cc) k!)<|HH XI<|HH (show ∃o,n4.get L7.nx=some o∧aH.same o (aH.cells [(AV.int .u8 (c9 (⟨.aI,t.rows,t.rest,t.day,.aI,(aM (l_.take i0) ((l_.g i0).worker)),((l_.g i0).worker),((l_.g i0).ab),((l_.g i0).aP),((l_.g i0).leave),((l_.g i0).out)⟩:fj)))] 81 false)=true from ⟨_,G7,by simp [aH.same,dU,AV.same]⟩)<|VV Y0<|CC<|ZZ) k!
   exact kN.round (by simp only[g9,cond_true,cond_false]) ev (fun x=>((x 0)::bA::(AV.ptr cC 0)::rx x 3 4 (Wh::rx x 8 8 (bA::(AV.int .i64 ((l_.length:Nat):Int))::(AV.int .i64 (((i0+1):Nat):Int))::rx x 19 19 [])))) k! (fun x=>sr bA l_ t cC bk ft l8 vw b4 dg eG (i0+1) (wM++[(c9 (⟨.aI,t.rows,t.rest,t.day,.aI,(aM (l_.take i0) ((l_.g i0).worker)),((l_.g i0).worker),((l_.g i0).ab),((l_.g i0).aP),((l_.g i0).leave),((l_.g i0).out)⟩:fj))]) Wh o! x wN rl Tf o! Wi (by first | omega | (simp;omega)))
def bM (t:aK) (l_:List aO):List Int×Int:=(bif (!decide ((bU t l_)=0)) then ([],(bU t l_)) else ((g9 t l_ l_.length 0 ([])),0))
theorem fb {d:Nat} {h:ar} {bA:AV} (t:aK) (l_:List aO) (b8:aD.ok h t) (bE:bD h bA l_) (b4:Tidy h):∃z hk,eD (d+8) (.fn 10) [(AV.agg [t.ak,(AV.int .i64 t.rest),(AV.int .i64 t.day)]),bA] h= .ret (AV.tuple [z,(AV.int .i64 ((bM t l_).2))]) hk∧cG h hk∧fW hk .u8 81 z (bM t l_).1∧ij 81 h hk z (zs .u8 (bM t l_).1):=by
 have pP:=bE.small
 rcases Bool.eq_false_or_eq_true (!decide ((bU t l_)=0)) with f0 | f0
 · have fH:=sS f0
   obtain ⟨h1,bm,aL,cu,aE,bh⟩:=cj b4 (aH.cells [t.ak,(AV.int .i64 t.rest),(AV.int .i64 t.day)] 24 false)
   have aG:Has h h1:=bh
   have k2:=rk (d:=d) t l_ (aD.mono aG b8) (bE.has aG) aL
   have ev:=pk (d+7) lN ((AV.agg [t.ak,(AV.int .i64 t.rest),(AV.int .i64 t.day)])::bA::cz 36) h .ret h1 (NN bm (fun i=>(AV.ptr i 0))<|CN 2<|MM (aw 24 0 (AV.agg [t.ak,(AV.int .i64 t.rest),(AV.int .i64 t.day)]) aE k!)<|CC<|EE k2<|CN 2<|VV (cS 28 false true .i64 (bU t l_) 0)<|BB f0<|CN 3<|ZZ) k!
   have e:bM t l_=([],(bU t l_)):=by simp only[bM,f0,cond_true,cond_false]
   rw[e]
   exact ⟨.aI,iy rfl (bz Tryz.func10 yH k! (.inr rfl) ev k!) b4 ⟨aL,aG,by omega⟩ (P:=fun hh=>fW hh .u8 81 .aI []∧ij 81 h hh .aI (zs .u8 [])) ⟨fW.nil k! k!,.inl ⟨rfl,rfl⟩⟩ fun _=>⟨fW.nil k! k!,.inl ⟨rfl,rfl⟩⟩⟩
 · have fH:=sU f0
   have UF:=lF fH
   obtain ⟨h1,bm,aL,cu,aE,bh⟩:=cj b4 (aH.cells [t.ak,(AV.int .i64 t.rest),(AV.int .i64 t.day)] 24 false)
   have aG:Has h h1:=bh
   have k2:=rk (d:=d) t l_ (aD.mono aG b8) (bE.has aG) aL
   have DG:cJ (some (.slice 37)) (some bA)=some (AV.int .i64 ((l_.length:Nat):Int)):=bE.len
   obtain ⟨Wj,ZL,h6,Qq,Qs,Y1,Y2⟩:=sr (d:=d) (h:=h1) bA l_ t h.nx (bE.has aG) (b8.has aG) (aD.mono aG b8) o! aL aE l_.length 0 ([]) AV.aI o! (fun k_=>(((AV.agg [t.ak,(AV.int .i64 t.rest),(AV.int .i64 t.day)])::bA::(AV.ptr h.nx 0)::AV.undef::AV.aI::(AV.int .i64 0)::(AV.int .i64 (bU t l_))::AV.aI::AV.undef::AV.undef::(AV.agg [t.ak,(AV.int .i64 t.rest),(AV.int .i64 t.day)])::bA::(AV.int .i64 (bU t l_))::(AV.int .i64 (bU t l_))::(AV.bool (!decide ((bU t l_)=0)))::AV.undef::bA::(AV.int .i64 ((l_.length:Nat):Int))::(AV.int .i64 0)::cz 19):List AV).getD k_ AV.undef) h1 aL (Has.refl _) (Nat.le_refl _) (.inl ⟨rfl,rfl⟩) (Nat.zero_le _)
   rw[mr] at Y2
   have eQ:=Qs.y
   have Y3:h1.nx≤h6.nx:=Qs.n
   have ek:Has h h6:=aG.trans Qs.a
   have ev:=pk (d+7) lN ((AV.agg [t.ak,(AV.int .i64 t.rest),(AV.int .i64 t.day)])::bA::cz 36) h .ret h6 (NN bm (fun i=>(AV.ptr i 0))<|CN 2<|MM (aw 24 0 (AV.agg [t.ak,(AV.int .i64 t.rest),(AV.int .i64 t.day)]) aE k!)<|CC<|EE k2<|CN 2<|VV (cS 28 false true .i64 (bU t l_) 0)<|BB f0<|CN 2<|VV DG<|CC<|LL Qq<|CN 3<|ZZ) k!
   have e:bM t l_=((g9 t l_ l_.length 0 ([])),0):=by simp only[bM,f0,cond_true,cond_false]
   rw[e]
   have oz:=ij.le (h0:=h) Y1 o!
   exact ⟨Wj,iy rfl (bz Tryz.func10 yH k! (.inr rfl) ev k!) b4 ⟨eQ,ek,by omega⟩ (P:=fun hh=>fW hh .u8 81 Wj (g9 t l_ l_.length 0 ([]))∧ij 81 h hh Wj (zs .u8 (g9 t l_ l_.length 0 ([])))) ⟨oz.zs o! k! k!,oz⟩ fun v=>⟨oz.GO (nW v) k! k!,oz.GQ (nW v)⟩⟩
noncomputable def n5:Code:=(Tryz.f64.body).getD .skip
theorem yI:Tryz.f64.body=some n5:=by kernel_rfl
def du (f:Int):Bool:=(!decide (f=0))
theorem gB {d:Nat} {h:ar} (f:Int) (b4:Tidy h):eD (d+1) (.fn 64) [(AV.int .u8 f)] h= .ret (AV.bool (du f)) h:=by
 have ev:=pk (d) n5 ((AV.int .u8 f)::cz 4) h .ret h (CN 2<|VV (cS 81 false true .u8 f 0)<|CC<|ZZ) k!
 have e:du f=(!decide (f=0)):=by simp only[du,cond_true,cond_false]
 rw[e]
 exact az rfl (bz Tryz.func64 yI k! (.inr rfl) ev k!) (Has.refl _) rfl
noncomputable def jc:Code:=(Tryz.f104.body).getD .skip
theorem rm:Tryz.f104.body=some jc:=by kernel_rfl
noncomputable def jF:Code:=(dD jc).getD 0 .skip
def et (s:List Int) (P:Int→Bool):Nat→Nat→Option (Int)
 | 0,_=>none
 | eG+1,i0=>(bif (P (s.g i0)) then some ((i0:Nat):Int) else et s P eG (i0+1))
theorem kU {d:Nat} {h:ar} (sV:AV) (g:FuncId) (cap:List AV) (s:List Int) (P:Int→Bool) (bk:fW h .u8 81 sV s) (hP:∀y hh,Tidy hh→Has h hh→eD d (.fn g) (.int .u8 y::cap) hh= .ret (.bool (P y)) hh):∀(k_ i_:Nat) (_:i_+k_=s.length) (x:Nat→AV) (hh:ar) (bb:Tidy hh) (aR:Has h hh),aY (eD (d)) jF ⟨(sV::(AV.func g [] cap)::rx x 2 5 ((AV.int .i64 ((s.length:Nat):Int))::(AV.int .i64 ((i_:Nat):Int))::rx x 9 10 [])),hh,[],.no⟩ (.exit 0) hh (fun y=>(sV::(AV.func g [] cap)::rx y 2 5 ((AV.int .i64 ((s.length:Nat):Int))::rx y 8 11 []))) (fun r y=>(sV::(AV.func g [] cap)::(y 2)::(y 3)::(AV.int .i64 r)::(y 5)::(y 6)::(AV.int .i64 ((s.length:Nat):Int))::rx y 8 11 [])) (et s P k_ i_)
 | 0,i0,qo,x,hh,bb,aR=>by
   have fK:=bk.small
   have q1:(decide (((i0:Nat):Int)<((s.length:Nat):Int)))=false:=d!
   have ev:=pk (d) jF (sV::(AV.func g [] cap)::rx x 2 5 ((AV.int .i64 ((s.length:Nat):Int))::(AV.int .i64 ((i0:Nat):Int))::rx x 9 10 [])) hh (.exit 0) hh (VV (bT 3 false false .i64 ((i0:Nat):Int) ((s.length:Nat):Int))<|BB q1<|ZZ) k!
   exact aY.out rfl ev (cG.refl bb) k!
 | eG+1,i0,qo,x,hh,bb,aR=>by
   have fK:=bk.small
   rcases Bool.eq_false_or_eq_true (P (s.g i0)) with f1 | f1
   · have q1:(decide (((i0:Nat):Int)<((s.length:Nat):Int)))=true:=d!
     obtain ⟨p3,q4,dG,_⟩:=(bk.has aR).elem (i:=i0) o!
     have hL:c_ env (some (.slice 81)) (some sV) (some (AV.int .i64 ((i0:Nat):Int)))=some (AV.ptr p3 q4):=dG
     have mB:bN env hh 81 (AV.ptr p3 q4)=some (AV.int .u8 (s.g i0)):=(bk.has aR).load o! dG
     have k6:=hP (s.g i0) hh bb aR
     have ev:=pk (d) jF (sV::(AV.func g [] cap)::rx x 2 5 ((AV.int .i64 ((s.length:Nat):Int))::(AV.int .i64 ((i0:Nat):Int))::rx x 9 10 [])) hh .ret hh (VV (bT 3 false false .i64 ((i0:Nat):Int) ((s.length:Nat):Int))<|BB q1<|CN 5<|VV hL<|MM mB<|EE k6<|BB f1<|CN 2<|ZZ) k!
     exact aY.ret ((i0:Nat):Int) (by simp only[et,f1,cond_true,cond_false]) ev (cG.refl bb) k!
   · have q1:(decide (((i0:Nat):Int)<((s.length:Nat):Int)))=true:=d!
     obtain ⟨p3,q4,dG,_⟩:=(bk.has aR).elem (i:=i0) o!
     have hL:c_ env (some (.slice 81)) (some sV) (some (AV.int .i64 ((i0:Nat):Int)))=some (AV.ptr p3 q4):=dG
     have mB:bN env hh 81 (AV.ptr p3 q4)=some (AV.int .u8 (s.g i0)):=(bk.has aR).load o! dG
     have k6:=hP (s.g i0) hh bb aR
     have u8:=hJ 3 false true i0 1 o!
     have ev:=pk (d) jF (sV::(AV.func g [] cap)::rx x 2 5 ((AV.int .i64 ((s.length:Nat):Int))::(AV.int .i64 ((i0:Nat):Int))::rx x 9 10 [])) hh .normal hh (VV (bT 3 false false .i64 ((i0:Nat):Int) ((s.length:Nat):Int))<|BB q1<|CN 5<|VV hL<|MM mB<|EE k6<|BB f1<|VV u8<|CC<|ZZ) k!
     exact aY.round (by simp only[et,f1,cond_true,cond_false]) ev (cG.refl bb) (fun x=>(sV::(AV.func g [] cap)::rx x 2 5 ((AV.int .i64 ((s.length:Nat):Int))::(AV.int .i64 (((i0+1):Nat):Int))::rx x 9 10 []))) k! (fun x=>kU sV g cap s P bk hP eG (i0+1) o! x hh bb aR)
def fX (s:List Int) (P:Int→Bool):Int:=(match (et s P s.length 0) with | none=>(-1) | some KJ=>KJ)
theorem yJ {d:Nat} {h:ar} {sV:AV} {g:FuncId} {cap:List AV} (s:List Int) (P:Int→Bool) (hU:fW h .u8 81 sV s) (hP:∀y hh,Tidy hh→Has h hh→eD d (.fn g) (.int .u8 y::cap) hh= .ret (.bool (P y)) hh) (b4:Tidy h):eD (d+1) (.fn 104) [sV,(AV.func g [] cap)] h= .ret (AV.int .i64 (fX s P)) h:=by
 have OH:=hU.small
 cases kQ:et s P s.length 0 with
 | none=>
   have hS:cJ (some (.slice 81)) (some sV)=some (AV.int .i64 ((s.length:Nat):Int)):=hU.len
   obtain ⟨NL,h3,iz,hT⟩:=aY.n kQ (kU (d:=d) (h:=h) sV g cap s P hU hP s.length 0 o! (fun k_=>((sV::(AV.func g [] cap)::AV.undef::AV.undef::(AV.int .i64 0)::AV.undef::sV::(AV.int .i64 ((s.length:Nat):Int))::(AV.int .i64 0)::cz 10):List AV).getD k_ AV.undef) h b4 (Has.refl _))
   have kA:=hT.y
   have BJ:h.nx≤h3.nx:=hT.n
   have iA:Has h h3:=hT.a
   have ev:=pk (d) jc (sV::(AV.func g [] cap)::cz 17) h .ret h3 (CN 2<|VV hS<|CC<|LL iz<|CC<|ZZ) k!
   have e:fX s P=(-1):=by simp only[fX,kQ,cond_true,cond_false]
   rw[e]
   exact az rfl (bz Tryz.func104 rm k! (.inr rfl) ev k!) iA rfl
 | some KJ=>
   have hS:cJ (some (.slice 81)) (some sV)=some (AV.int .i64 ((s.length:Nat):Int)):=hU.len
   obtain ⟨NL,h3,iz,hT⟩:=aY.r kQ (kU (d:=d) (h:=h) sV g cap s P hU hP s.length 0 o! (fun k_=>((sV::(AV.func g [] cap)::AV.undef::AV.undef::(AV.int .i64 0)::AV.undef::sV::(AV.int .i64 ((s.length:Nat):Int))::(AV.int .i64 0)::cz 10):List AV).getD k_ AV.undef) h b4 (Has.refl _))
   have kA:=hT.y
   have BJ:h.nx≤h3.nx:=hT.n
   have iA:Has h h3:=hT.a
   have ev:=pk (d) jc (sV::(AV.func g [] cap)::cz 17) h .ret h3 (CN 2<|VV hS<|CC<|LL iz<|ZZ) k!
   have e:fX s P=KJ:=by simp only[fX,kQ,cond_true,cond_false]
   rw[e]
   exact az rfl (bz Tryz.func104 rm k! (.inr rfl) ev k!) iA rfl
noncomputable def mb:Code:=(Tryz.f63.body).getD .skip
theorem uq:Tryz.f63.body=some mb:=by kernel_rfl
def gS (s:List Int) (P:Int→Bool):Bool:=(decide (0≤(fX s P)))
theorem eK {d:Nat} {h:ar} {sV:AV} {g:FuncId} {cap:List AV} (s:List Int) (P:Int→Bool) (hU:fW h .u8 81 sV s) (hP:∀y hh,Tidy hh→Has h hh→eD d (.fn g) (.int .u8 y::cap) hh= .ret (.bool (P y)) hh) (b4:Tidy h):eD (d+2) (.fn 63) [sV,(AV.func g [] cap)] h= .ret (AV.bool (gS s P)) h:=by
 have OH:=hU.small
 have k1:=yJ (d:=d) s P hU hP b4
 have ev:=pk (d+1) mb (sV::(AV.func g [] cap)::cz 7) h .ret h (CN 3<|EE k1<|VV (eP 3 false true .i64 (fX s P) 0)<|CC<|ZZ) k!
 have e:gS s P=(decide (0≤(fX s P))):=by simp only[gS,cond_true,cond_false]
 rw[e]
 exact az rfl (bz Tryz.func63 uq k! (.inr rfl) ev k!) (Has.refl _) rfl
noncomputable def dR:Code:=(Tryz.f33.body).getD .skip
theorem f_:Tryz.f33.body=some dR:=by kernel_rfl
def bX (t:aK) (l_:List aO) (worker:List UInt8) (ab:Int) (ae:Int) (ready:Int):Int:=(bif (!decide (((bM t l_).2)=0)) then ((bM t l_).2) else (bif (gS ((bM t l_).1) (fun y=>du y)) then 8 else (bif (!(fO worker)) then 5 else (bif (!(bW ab)) then 1 else (bif (!(bW ae)) then 1 else (bif (!(bW ready)) then 1 else (bif (decide (ae=0)) then 1 else 0)))))))
theorem iQ {d:Nat} {h:ar} {bA:AV} (t:aK) (l_:List aO) (worker:List UInt8) (ab:Int) (ae:Int) (ready:Int) (b8:aD.ok h t) (bE:bD h bA l_) (bf:worker.length<2^60) (b4:Tidy h):eD (d+11) (.fn 33) [(AV.agg [t.ak,(AV.int .i64 t.rest),(AV.int .i64 t.day)]),bA,(AV.str worker),(AV.int .i64 ab),(AV.int .i64 ae),(AV.int .i64 ready)] h= .ret (AV.int .i64 (bX t l_ worker ab ae ready)) h:=by
 have pP:=bE.small
 rcases Bool.eq_false_or_eq_true (!decide (((bM t l_).2)=0)) with f0 | f0
 · have fH:=sS f0
   obtain ⟨h1,bm,aL,cu,aE,bh⟩:=cj b4 (aH.cells [t.ak,(AV.int .i64 t.rest),(AV.int .i64 t.day)] 24 false)
   have aG:Has h h1:=bh
   obtain ⟨z2,h4,sX,ko,zq,Fx⟩:=fb (d:=d+2) t l_ (aD.mono aG b8) (bE.has aG) aL
   have eY:=ko.y
   have Fy:h1.nx≤h4.nx:=ko.n
   have gN:Has h h4:=aG.trans ko.a
   have yK:=zq.small
   have ev:=pk (d+10) dR ((AV.agg [t.ak,(AV.int .i64 t.rest),(AV.int .i64 t.day)])::bA::(AV.str worker)::(AV.int .i64 ab)::(AV.int .i64 ae)::(AV.int .i64 ready)::cz 38) h .ret h4 (NN bm (fun i=>(AV.ptr i 0))<|CC<|MM (aw 24 0 (AV.agg [t.ak,(AV.int .i64 t.rest),(AV.int .i64 t.day)]) aE k!)<|CC<|EE sX<|CN 6<|VV (cS 28 false true .i64 ((bM t l_).2) 0)<|CC<|BB f0<|CN 2<|ZZ) k!
   have e:bX t l_ worker ab ae ready=((bM t l_).2):=by simp only[bX,f0,cond_true,cond_false]
   rw[e]
   exact az rfl (bz Tryz.func33 f_ k! (.inr rfl) ev k!) gN rfl
 · have fH:=sU f0
   rcases Bool.eq_false_or_eq_true (gS ((bM t l_).1) (fun y=>du y)) with f1 | f1
   · obtain ⟨h1,bm,aL,cu,aE,bh⟩:=cj b4 (aH.cells [t.ak,(AV.int .i64 t.rest),(AV.int .i64 t.day)] 24 false)
     have aG:Has h h1:=bh
     obtain ⟨z2,h4,sX,ko,zq,Fx⟩:=fb (d:=d+2) t l_ (aD.mono aG b8) (bE.has aG) aL
     have eY:=ko.y
     have Fy:h1.nx≤h4.nx:=ko.n
     have gN:Has h h4:=aG.trans ko.a
     have yK:=zq.small
     have k6:=eK (d:=d+8) ((bM t l_).1) (fun y=>du y) zq (fun y hh yy aa=>gB (d:=d+7) y yy) eY
     have ev:=pk (d+10) dR ((AV.agg [t.ak,(AV.int .i64 t.rest),(AV.int .i64 t.day)])::bA::(AV.str worker)::(AV.int .i64 ab)::(AV.int .i64 ae)::(AV.int .i64 ready)::cz 38) h .ret h4 (NN bm (fun i=>(AV.ptr i 0))<|CC<|MM (aw 24 0 (AV.agg [t.ak,(AV.int .i64 t.rest),(AV.int .i64 t.day)]) aE k!)<|CC<|EE sX<|CN 6<|VV (cS 28 false true .i64 ((bM t l_).2) 0)<|CC<|BB f0<|CC<|EE k6<|CC<|BB f1<|CC<|ZZ) k!
     have e:bX t l_ worker ab ae ready=8:=by simp only[bX,f0,f1,cond_true,cond_false]
     rw[e]
     exact az rfl (bz Tryz.func33 f_ k! (.inr rfl) ev k!) gN rfl
   · rcases Bool.eq_false_or_eq_true (!(fO worker)) with f2 | f2
     · obtain ⟨h1,bm,aL,cu,aE,bh⟩:=cj b4 (aH.cells [t.ak,(AV.int .i64 t.rest),(AV.int .i64 t.day)] 24 false)
       have aG:Has h h1:=bh
       obtain ⟨z2,h4,sX,ko,zq,Fx⟩:=fb (d:=d+2) t l_ (aD.mono aG b8) (bE.has aG) aL
       have eY:=ko.y
       have Fy:h1.nx≤h4.nx:=ko.n
       have gN:Has h h4:=aG.trans ko.a
       have yK:=zq.small
       have k6:=eK (d:=d+8) ((bM t l_).1) (fun y=>du y) zq (fun y hh yy aa=>gB (d:=d+7) y yy) eY
       have k8:=eJ (d:=d+9) worker bf eY
       have ev:=pk (d+10) dR ((AV.agg [t.ak,(AV.int .i64 t.rest),(AV.int .i64 t.day)])::bA::(AV.str worker)::(AV.int .i64 ab)::(AV.int .i64 ae)::(AV.int .i64 ready)::cz 38) h .ret h4 (NN bm (fun i=>(AV.ptr i 0))<|CC<|MM (aw 24 0 (AV.agg [t.ak,(AV.int .i64 t.rest),(AV.int .i64 t.day)]) aE k!)<|CC<|EE sX<|CN 6<|VV (cS 28 false true .i64 ((bM t l_).2) 0)<|CC<|BB f0<|CC<|EE k6<|CC<|BB f1<|CC<|EE k8<|CN 2<|BB f2<|CC<|ZZ) k!
       have e:bX t l_ worker ab ae ready=5:=by simp only[bX,f0,f1,f2,cond_true,cond_false]
       rw[e]
       exact az rfl (bz Tryz.func33 f_ k! (.inr rfl) ev k!) gN rfl
     · rcases Bool.eq_false_or_eq_true (!(bW ab)) with f3 | f3
       · obtain ⟨h1,bm,aL,cu,aE,bh⟩:=cj b4 (aH.cells [t.ak,(AV.int .i64 t.rest),(AV.int .i64 t.day)] 24 false)
         have aG:Has h h1:=bh
         obtain ⟨z2,h4,sX,ko,zq,Fx⟩:=fb (d:=d+2) t l_ (aD.mono aG b8) (bE.has aG) aL
         have eY:=ko.y
         have Fy:h1.nx≤h4.nx:=ko.n
         have gN:Has h h4:=aG.trans ko.a
         have yK:=zq.small
         have k6:=eK (d:=d+8) ((bM t l_).1) (fun y=>du y) zq (fun y hh yy aa=>gB (d:=d+7) y yy) eY
         have k8:=eJ (d:=d+9) worker bf eY
         have jC:=aZ (d:=d+8) ab eY
         have ev:=pk (d+10) dR ((AV.agg [t.ak,(AV.int .i64 t.rest),(AV.int .i64 t.day)])::bA::(AV.str worker)::(AV.int .i64 ab)::(AV.int .i64 ae)::(AV.int .i64 ready)::cz 38) h .ret h4 (NN bm (fun i=>(AV.ptr i 0))<|CC<|MM (aw 24 0 (AV.agg [t.ak,(AV.int .i64 t.rest),(AV.int .i64 t.day)]) aE k!)<|CC<|EE sX<|CN 6<|VV (cS 28 false true .i64 ((bM t l_).2) 0)<|CC<|BB f0<|CC<|EE k6<|CC<|BB f1<|CC<|EE k8<|CN 2<|BB f2<|CC<|EE jC<|CN 2<|BB f3<|BB f3<|CC<|ZZ) k!
         have e:bX t l_ worker ab ae ready=1:=by simp only[bX,f0,f1,f2,f3,cond_true,cond_false]
         rw[e]
         exact az rfl (bz Tryz.func33 f_ k! (.inr rfl) ev k!) gN rfl
       · rcases Bool.eq_false_or_eq_true (!(bW ae)) with f4 | f4
         · obtain ⟨h1,bm,aL,cu,aE,bh⟩:=cj b4 (aH.cells [t.ak,(AV.int .i64 t.rest),(AV.int .i64 t.day)] 24 false)
           have aG:Has h h1:=bh
           obtain ⟨z2,h4,sX,ko,zq,Fx⟩:=fb (d:=d+2) t l_ (aD.mono aG b8) (bE.has aG) aL
           have eY:=ko.y
           have Fy:h1.nx≤h4.nx:=ko.n
           have gN:Has h h4:=aG.trans ko.a
           have yK:=zq.small
           have k6:=eK (d:=d+8) ((bM t l_).1) (fun y=>du y) zq (fun y hh yy aa=>gB (d:=d+7) y yy) eY
           have k8:=eJ (d:=d+9) worker bf eY
           have jC:=aZ (d:=d+8) ab eY
           have nj:=aZ (d:=d+8) ae eY
           have ev:=pk (d+10) dR ((AV.agg [t.ak,(AV.int .i64 t.rest),(AV.int .i64 t.day)])::bA::(AV.str worker)::(AV.int .i64 ab)::(AV.int .i64 ae)::(AV.int .i64 ready)::cz 38) h .ret h4 (NN bm (fun i=>(AV.ptr i 0))<|CC<|MM (aw 24 0 (AV.agg [t.ak,(AV.int .i64 t.rest),(AV.int .i64 t.day)]) aE k!)<|CC<|EE sX<|CN 6<|VV (cS 28 false true .i64 ((bM t l_).2) 0)<|CC<|BB f0<|CC<|EE k6<|CC<|BB f1<|CC<|EE k8<|CN 2<|BB f2<|CC<|EE jC<|CN 2<|BB f3<|CC<|EE nj<|CN 2<|BB f4<|BB f4<|CC<|ZZ) k!
           have e:bX t l_ worker ab ae ready=1:=by simp only[bX,f0,f1,f2,f3,f4,cond_true,cond_false]
           rw[e]
           exact az rfl (bz Tryz.func33 f_ k! (.inr rfl) ev k!) gN rfl
         · rcases Bool.eq_false_or_eq_true (!(bW ready)) with f5 | f5
           · obtain ⟨h1,bm,aL,cu,aE,bh⟩:=cj b4 (aH.cells [t.ak,(AV.int .i64 t.rest),(AV.int .i64 t.day)] 24 false)
             have aG:Has h h1:=bh
             obtain ⟨z2,h4,sX,ko,zq,Fx⟩:=fb (d:=d+2) t l_ (aD.mono aG b8) (bE.has aG) aL
             have eY:=ko.y
             have Fy:h1.nx≤h4.nx:=ko.n
             have gN:Has h h4:=aG.trans ko.a
             have yK:=zq.small
             have k6:=eK (d:=d+8) ((bM t l_).1) (fun y=>du y) zq (fun y hh yy aa=>gB (d:=d+7) y yy) eY
             have k8:=eJ (d:=d+9) worker bf eY
             have jC:=aZ (d:=d+8) ab eY
             have nj:=aZ (d:=d+8) ae eY
             have ra:=aZ (d:=d+8) ready eY
             have ev:=pk (d+10) dR ((AV.agg [t.ak,(AV.int .i64 t.rest),(AV.int .i64 t.day)])::bA::(AV.str worker)::(AV.int .i64 ab)::(AV.int .i64 ae)::(AV.int .i64 ready)::cz 38) h .ret h4 (NN bm (fun i=>(AV.ptr i 0))<|CC<|MM (aw 24 0 (AV.agg [t.ak,(AV.int .i64 t.rest),(AV.int .i64 t.day)]) aE k!)<|CC<|EE sX<|CN 6<|VV (cS 28 false true .i64 ((bM t l_).2) 0)<|CC<|BB f0<|CC<|EE k6<|CC<|BB f1<|CC<|EE k8<|CN 2<|BB f2<|CC<|EE jC<|CN 2<|BB f3<|CC<|EE nj<|CN 2<|BB f4<|CC<|EE ra<|CN 2<|BB f5<|BB f5<|CC<|ZZ) k!
             have e:bX t l_ worker ab ae ready=1:=by simp only[bX,f0,f1,f2,f3,f4,f5,cond_true,cond_false]
             rw[e]
             exact az rfl (bz Tryz.func33 f_ k! (.inr rfl) ev k!) gN rfl
           · rcases Bool.eq_false_or_eq_true (decide (ae=0)) with f6 | f6
             · have BT:=of_decide_eq_true f6
               obtain ⟨h1,bm,aL,cu,aE,bh⟩:=cj b4 (aH.cells [t.ak,(AV.int .i64 t.rest),(AV.int .i64 t.day)] 24 false)
               have aG:Has h h1:=bh
               obtain ⟨z2,h4,sX,ko,zq,Fx⟩:=fb (d:=d+2) t l_ (aD.mono aG b8) (bE.has aG) aL
               have eY:=ko.y
               have Fy:h1.nx≤h4.nx:=ko.n
               have gN:Has h h4:=aG.trans ko.a
               have yK:=zq.small
               have k6:=eK (d:=d+8) ((bM t l_).1) (fun y=>du y) zq (fun y hh yy aa=>gB (d:=d+7) y yy) eY
               have k8:=eJ (d:=d+9) worker bf eY
               have jC:=aZ (d:=d+8) ab eY
               have nj:=aZ (d:=d+8) ae eY
               have ra:=aZ (d:=d+8) ready eY
               have ev:=pk (d+10) dR ((AV.agg [t.ak,(AV.int .i64 t.rest),(AV.int .i64 t.day)])::bA::(AV.str worker)::(AV.int .i64 ab)::(AV.int .i64 ae)::(AV.int .i64 ready)::cz 38) h .ret h4 (NN bm (fun i=>(AV.ptr i 0))<|CC<|MM (aw 24 0 (AV.agg [t.ak,(AV.int .i64 t.rest),(AV.int .i64 t.day)]) aE k!)<|CC<|EE sX<|CN 6<|VV (cS 28 false true .i64 ((bM t l_).2) 0)<|CC<|BB f0<|CC<|EE k6<|CC<|BB f1<|CC<|EE k8<|CN 2<|BB f2<|CC<|EE jC<|CN 2<|BB f3<|CC<|EE nj<|CN 2<|BB f4<|CC<|EE ra<|CN 2<|BB f5<|CC<|VV (dC 3 false true .i64 ae 0)<|CC<|BB f6<|CC<|ZZ) k!
               have e:bX t l_ worker ab ae ready=1:=by simp only[bX,f0,f1,f2,f3,f4,f5,f6,cond_true,cond_false]
               rw[e]
               exact az rfl (bz Tryz.func33 f_ k! (.inr rfl) ev k!) gN rfl
             · have BT:=of_decide_eq_false f6
               obtain ⟨h1,bm,aL,cu,aE,bh⟩:=cj b4 (aH.cells [t.ak,(AV.int .i64 t.rest),(AV.int .i64 t.day)] 24 false)
               have aG:Has h h1:=bh
               obtain ⟨z2,h4,sX,ko,zq,Fx⟩:=fb (d:=d+2) t l_ (aD.mono aG b8) (bE.has aG) aL
               have eY:=ko.y
               have Fy:h1.nx≤h4.nx:=ko.n
               have gN:Has h h4:=aG.trans ko.a
               have yK:=zq.small
               have k6:=eK (d:=d+8) ((bM t l_).1) (fun y=>du y) zq (fun y hh yy aa=>gB (d:=d+7) y yy) eY
               have k8:=eJ (d:=d+9) worker bf eY
               have jC:=aZ (d:=d+8) ab eY
               have nj:=aZ (d:=d+8) ae eY
               have ra:=aZ (d:=d+8) ready eY
               have ev:=pk (d+10) dR ((AV.agg [t.ak,(AV.int .i64 t.rest),(AV.int .i64 t.day)])::bA::(AV.str worker)::(AV.int .i64 ab)::(AV.int .i64 ae)::(AV.int .i64 ready)::cz 38) h .ret h4 (NN bm (fun i=>(AV.ptr i 0))<|CC<|MM (aw 24 0 (AV.agg [t.ak,(AV.int .i64 t.rest),(AV.int .i64 t.day)]) aE k!)<|CC<|EE sX<|CN 6<|VV (cS 28 false true .i64 ((bM t l_).2) 0)<|CC<|BB f0<|CC<|EE k6<|CC<|BB f1<|CC<|EE k8<|CN 2<|BB f2<|CC<|EE jC<|CN 2<|BB f3<|CC<|EE nj<|CN 2<|BB f4<|CC<|EE ra<|CN 2<|BB f5<|CC<|VV (dC 3 false true .i64 ae 0)<|CC<|BB f6<|CC<|ZZ) k!
               have e:bX t l_ worker ab ae ready=0:=by simp only[bX,f0,f1,f2,f3,f4,f5,f6,cond_true,cond_false]
               rw[e]
               exact az rfl (bz Tryz.func33 f_ k! (.inr rfl) ev k!) gN rfl
theorem BX {t:aK} {l_:List aO} (h:(bM t l_).2=0):l_.length≤128:=by
 unfold bM at h
 cases e:(!decide (bU t l_=0)) with
 | true=>rw[e] at h;rw[show bU t l_=0 from h] at e;cases e
 | false=>exact lF (t:=t) (by
  by_cases q:bU t l_=0
  · exact q
  · rw[decide_eq_false q] at e;cases e)
theorem sY {t:aK} {l_:List aO} {worker:List UInt8} {p m r:Int} (h:bX t l_ worker p m r=0):(bM t l_).2=0:=by
 unfold bX at h
 cases e:(!decide ((bM t l_).2=0)) with
 | true=>rw[e] at h;exact h
 | false=>
   by_cases q:(bM t l_).2=0
   · exact q
   · rw[decide_eq_false q] at e;cases e
theorem wQ {t:aK} {l_:List aO} {worker:List UInt8} {p m r:Int} (h:bX t l_ worker p m r=0):l_.length≤128:=BX (sY h)
noncomputable def pS:Code:=(Tryz.f24.body).getD .skip
theorem Ay:Tryz.f24.body=some pS:=by kernel_rfl
def aF (n:Int):Bool:=(bif (decide (0≤n)) then (decide (n≤100000)) else false)
theorem a_ {d:Nat} {h:ar} (n:Int) (b4:Tidy h):eD (d+1) (.fn 24) [(AV.int .i64 n)] h= .ret (AV.bool (aF n)) h:=by
 rcases Bool.eq_false_or_eq_true (decide (0≤n)) with f0 | f0
 · have fH:=of_decide_eq_true f0
   have ev:=pk (d) pS ((AV.int .i64 n)::cz 8) h .ret h (CN 2<|VV (eP 3 false true .i64 n 0)<|CC<|BB f0<|CC<|BB f0<|VV (gZ 3 false true .i64 n 100000)<|VV (aX (a:=some (AV.bool (decide (n≤100000)))) (b:=some (AV.bool false)) f0)<|CC<|ZZ) k!
   have e:aF n=(decide (n≤100000)):=by simp only[aF,f0,cond_true,cond_false]
   rw[e]
   exact az rfl (bz Tryz.func24 Ay k! (.inr rfl) ev k!) (Has.refl _) rfl
 · have fH:=of_decide_eq_false f0
   have ev:=pk (d) pS ((AV.int .i64 n)::cz 8) h .ret h (CN 2<|VV (eP 3 false true .i64 n 0)<|CC<|BB f0<|BB f0<|VV (aJ (a:=some AV.undef) (b:=some (AV.bool false)) f0)<|CC<|ZZ) k!
   have e:aF n=false:=by simp only[aF,f0,cond_true,cond_false]
   rw[e]
   exact az rfl (bz Tryz.func24 Ay k! (.inr rfl) ev k!) (Has.refl _) rfl
noncomputable def eL:Code:=(Tryz.f9.body).getD .skip
theorem jr:Tryz.f9.body=some eL:=by kernel_rfl
noncomputable def gd:Code:=(dD eL).getD 0 .skip
def cD (t:aK):Nat→Nat→Option (Int)
 | 0,_=>none
 | eG+1,i0=>(bif (!(aF ((t.rows.g i0).ab))) then some 1 else (bif (!(aF ((t.rows.g i0).ae))) then some 1 else (bif (!(aF ((t.rows.g i0).out))) then some 1 else cD t eG (i0+1))))
theorem hB {d:Nat} {h:ar} (t:aK) (cC:Nat) (bk:bD h t.ak t.rows) (l8:aD.ok h t):∀(k_ i_:Nat) (_:i_+k_=t.rows.length) (x:Nat→AV) (hh:ar) (bb:Tidy hh) (aR:Has h hh) (dg:hh.get cC=some (aH.cells [t.ak,(AV.int .i64 t.rest),(AV.int .i64 t.day)] 24 false)),aY (eD (d+1)) gd ⟨((x 0)::(AV.ptr cC 0)::(x 2)::(AV.int .i64 ((i_:Nat):Int))::rx x 4 49 []),hh,[],.no⟩ (.exit 0) hh (fun y=>((y 0)::(AV.ptr cC 0)::rx y 2 51 [])) (fun r y=>((y 0)::(AV.ptr cC 0)::(AV.int .i64 r)::rx y 3 50 [])) (cD t k_ i_)
 | 0,i0,qo,x,hh,bb,aR,dg=>by
   have fK:=bk.small
   have sW:=bb _ _ dg
   have hS:cJ (some (.slice 67)) (some t.ak)=some (AV.int .i64 ((t.rows.length:Nat):Int)):=(bk.has aR).len
   have q2:(decide (((i0:Nat):Int)<((t.rows.length:Nat):Int)))=false:=d!
   have ev:=pk (d+1) gd ((x 0)::(AV.ptr cC 0)::(x 2)::(AV.int .i64 ((i0:Nat):Int))::rx x 4 49 []) hh (.exit 0) hh (CN 2<|MM (aw 22 0 t.ak dg k!)<|VV hS<|VV (bT 3 false false .i64 ((i0:Nat):Int) ((t.rows.length:Nat):Int))<|BB q2<|ZZ) k!
   exact aY.out rfl ev (cG.refl bb) k!
 | eG+1,i0,qo,x,hh,bb,aR,dg=>by
   have fK:=bk.small
   have sW:=bb _ _ dg
   rcases Bool.eq_false_or_eq_true (!(aF ((t.rows.g i0).ab))) with f1 | f1
   · have hS:cJ (some (.slice 67)) (some t.ak)=some (AV.int .i64 ((t.rows.length:Nat):Int)):=(bk.has aR).len
     have q2:(decide (((i0:Nat):Int)<((t.rows.length:Nat):Int)))=true:=d!
     obtain ⟨p4,q5,js⟩:=(bk.has aR).elem (i:=i0) o!
     have nM:c_ env (some (.slice 67)) (some t.ak) (some (AV.int .i64 ((i0:Nat):Int)))=some (AV.ptr p4 q5):=js
     have wR:bN env hh 3 (AV.ptr p4 (q5+0))=some (AV.int .i64 ((t.rows.g i0).ab)):=(bk.has aR).part (t:=3) (j:=0) o! js k! rfl
     have k7:=a_ (d:=d) ((t.rows.g i0).ab) bb
     have ev:=pk (d+1) gd ((x 0)::(AV.ptr cC 0)::(x 2)::(AV.int .i64 ((i0:Nat):Int))::rx x 4 49 []) hh .ret hh (CN 2<|MM (aw 22 0 t.ak dg k!)<|VV hS<|VV (bT 3 false false .i64 ((i0:Nat):Int) ((t.rows.length:Nat):Int))<|BB q2<|CC<|MM (aw 22 0 t.ak dg k!)<|CC<|VV nM<|CC<|MM wR<|EE k7<|CN 2<|BB f1<|BB f1<|BB f1<|BB f1<|BB f1<|BB f1<|BB f1<|BB f1<|VV (aX (a:=some (AV.bool true)) (b:=some AV.undef) f1)<|CC<|TT<|TT<|TT<|TT<|TT<|TT<|TT<|TT<|CC<|TT<|CC<|ZZ) k!
     exact aY.ret 1 (by simp only[cD,f1,cond_true,cond_false]) ev (cG.refl bb) k!
   · rcases Bool.eq_false_or_eq_true (!(aF ((t.rows.g i0).ae))) with f2 | f2
     · have hS:cJ (some (.slice 67)) (some t.ak)=some (AV.int .i64 ((t.rows.length:Nat):Int)):=(bk.has aR).len
       have q2:(decide (((i0:Nat):Int)<((t.rows.length:Nat):Int)))=true:=d!
       obtain ⟨p4,q5,js⟩:=(bk.has aR).elem (i:=i0) o!
       have nM:c_ env (some (.slice 67)) (some t.ak) (some (AV.int .i64 ((i0:Nat):Int)))=some (AV.ptr p4 q5):=js
       have wR:bN env hh 3 (AV.ptr p4 (q5+0))=some (AV.int .i64 ((t.rows.g i0).ab)):=(bk.has aR).part (t:=3) (j:=0) o! js k! rfl
       have k7:=a_ (d:=d) ((t.rows.g i0).ab) bb
       obtain ⟨OO,OP,DL⟩:=(bk.has aR).elem (i:=i0) o!
       have Ik:c_ env (some (.slice 67)) (some t.ak) (some (AV.int .i64 ((i0:Nat):Int)))=some (AV.ptr OO OP):=DL
       have KX:bN env hh 3 (AV.ptr OO (OP+1))=some (AV.int .i64 ((t.rows.g i0).ae)):=(bk.has aR).part (t:=3) (j:=1) o! DL k! rfl
       have P':=a_ (d:=d) ((t.rows.g i0).ae) bb
       have ev:=pk (d+1) gd ((x 0)::(AV.ptr cC 0)::(x 2)::(AV.int .i64 ((i0:Nat):Int))::rx x 4 49 []) hh .ret hh (CN 2<|MM (aw 22 0 t.ak dg k!)<|VV hS<|VV (bT 3 false false .i64 ((i0:Nat):Int) ((t.rows.length:Nat):Int))<|BB q2<|CC<|MM (aw 22 0 t.ak dg k!)<|CC<|VV nM<|CC<|MM wR<|EE k7<|CN 2<|BB f1<|CC<|BB f1<|MM (aw 22 0 t.ak dg k!)<|BB f1<|CC<|BB f1<|VV Ik<|BB f1<|CC<|BB f1<|MM KX<|BB f1<|EE P'<|BB f1<|CC<|VV (aJ (a:=some (AV.bool true)) (b:=some (AV.bool (!(aF ((t.rows.g i0).ae))))) f1)<|CC<|BB f2<|BB f2<|BB f2<|BB f2<|BB f2<|BB f2<|BB f2<|BB f2<|VV (aX (a:=some (AV.bool true)) (b:=some AV.undef) f2)<|TT<|CC<|ZZ) k!
       exact aY.ret 1 (by simp only[cD,f1,f2,cond_true,cond_false]) ev (cG.refl bb) k!
     · rcases Bool.eq_false_or_eq_true (!(aF ((t.rows.g i0).out))) with f3 | f3
       · have hS:cJ (some (.slice 67)) (some t.ak)=some (AV.int .i64 ((t.rows.length:Nat):Int)):=(bk.has aR).len
         have q2:(decide (((i0:Nat):Int)<((t.rows.length:Nat):Int)))=true:=d!
         obtain ⟨p4,q5,js⟩:=(bk.has aR).elem (i:=i0) o!
         have nM:c_ env (some (.slice 67)) (some t.ak) (some (AV.int .i64 ((i0:Nat):Int)))=some (AV.ptr p4 q5):=js
         have wR:bN env hh 3 (AV.ptr p4 (q5+0))=some (AV.int .i64 ((t.rows.g i0).ab)):=(bk.has aR).part (t:=3) (j:=0) o! js k! rfl
         have k7:=a_ (d:=d) ((t.rows.g i0).ab) bb
         obtain ⟨OO,OP,DL⟩:=(bk.has aR).elem (i:=i0) o!
         have Ik:c_ env (some (.slice 67)) (some t.ak) (some (AV.int .i64 ((i0:Nat):Int)))=some (AV.ptr OO OP):=DL
         have KX:bN env hh 3 (AV.ptr OO (OP+1))=some (AV.int .i64 ((t.rows.g i0).ae)):=(bk.has aR).part (t:=3) (j:=1) o! DL k! rfl
         have P':=a_ (d:=d) ((t.rows.g i0).ae) bb
         obtain ⟨Tg,Th,DM⟩:=(bk.has aR).elem (i:=i0) o!
         have Qt:c_ env (some (.slice 67)) (some t.ak) (some (AV.int .i64 ((i0:Nat):Int)))=some (AV.ptr Tg Th):=DM
         have Qu:bN env hh 3 (AV.ptr Tg (Th+2))=some (AV.int .i64 ((t.rows.g i0).out)):=(bk.has aR).part (t:=3) (j:=2) o! DM k! rfl
         have ND:=a_ (d:=d) ((t.rows.g i0).out) bb
         have ev:=pk (d+1) gd ((x 0)::(AV.ptr cC 0)::(x 2)::(AV.int .i64 ((i0:Nat):Int))::rx x 4 49 []) hh .ret hh (CN 2<|MM (aw 22 0 t.ak dg k!)<|VV hS<|VV (bT 3 false false .i64 ((i0:Nat):Int) ((t.rows.length:Nat):Int))<|BB q2<|CC<|MM (aw 22 0 t.ak dg k!)<|CC<|VV nM<|CC<|MM wR<|EE k7<|CN 2<|BB f1<|CC<|BB f1<|MM (aw 22 0 t.ak dg k!)<|BB f1<|CC<|BB f1<|VV Ik<|BB f1<|CC<|BB f1<|MM KX<|BB f1<|EE P'<|BB f1<|CC<|VV (aJ (a:=some (AV.bool true)) (b:=some (AV.bool (!(aF ((t.rows.g i0).ae))))) f1)<|CC<|BB f2<|CC<|BB f2<|MM (aw 22 0 t.ak dg k!)<|BB f2<|CC<|BB f2<|VV Qt<|BB f2<|CC<|BB f2<|MM Qu<|BB f2<|EE ND<|BB f2<|CC<|VV (aJ (a:=some (AV.bool true)) (b:=some (AV.bool (!(aF ((t.rows.g i0).out))))) f2)<|BB f3<|CC<|ZZ) k!
         exact aY.ret 1 (by simp only[cD,f1,f2,f3,cond_true,cond_false]) ev (cG.refl bb) k!
       · have hS:cJ (some (.slice 67)) (some t.ak)=some (AV.int .i64 ((t.rows.length:Nat):Int)):=(bk.has aR).len
         have q2:(decide (((i0:Nat):Int)<((t.rows.length:Nat):Int)))=true:=d!
         obtain ⟨p4,q5,js⟩:=(bk.has aR).elem (i:=i0) o!
         have nM:c_ env (some (.slice 67)) (some t.ak) (some (AV.int .i64 ((i0:Nat):Int)))=some (AV.ptr p4 q5):=js
         have wR:bN env hh 3 (AV.ptr p4 (q5+0))=some (AV.int .i64 ((t.rows.g i0).ab)):=(bk.has aR).part (t:=3) (j:=0) o! js k! rfl
         have k7:=a_ (d:=d) ((t.rows.g i0).ab) bb
         obtain ⟨OO,OP,DL⟩:=(bk.has aR).elem (i:=i0) o!
         have Ik:c_ env (some (.slice 67)) (some t.ak) (some (AV.int .i64 ((i0:Nat):Int)))=some (AV.ptr OO OP):=DL
         have KX:bN env hh 3 (AV.ptr OO (OP+1))=some (AV.int .i64 ((t.rows.g i0).ae)):=(bk.has aR).part (t:=3) (j:=1) o! DL k! rfl
         have P':=a_ (d:=d) ((t.rows.g i0).ae) bb
         obtain ⟨Tg,Th,DM⟩:=(bk.has aR).elem (i:=i0) o!
         have Qt:c_ env (some (.slice 67)) (some t.ak) (some (AV.int .i64 ((i0:Nat):Int)))=some (AV.ptr Tg Th):=DM
         have Qu:bN env hh 3 (AV.ptr Tg (Th+2))=some (AV.int .i64 ((t.rows.g i0).out)):=(bk.has aR).part (t:=3) (j:=2) o! DM k! rfl
         have ND:=a_ (d:=d) ((t.rows.g i0).out) bb
         have Qv:=hJ 3 false true i0 1 o!
         have ev:=pk (d+1) gd ((x 0)::(AV.ptr cC 0)::(x 2)::(AV.int .i64 ((i0:Nat):Int))::rx x 4 49 []) hh .normal hh (CN 2<|MM (aw 22 0 t.ak dg k!)<|VV hS<|VV (bT 3 false false .i64 ((i0:Nat):Int) ((t.rows.length:Nat):Int))<|BB q2<|CC<|MM (aw 22 0 t.ak dg k!)<|CC<|VV nM<|CC<|MM wR<|EE k7<|CN 2<|BB f1<|CC<|BB f1<|MM (aw 22 0 t.ak dg k!)<|BB f1<|CC<|BB f1<|VV Ik<|BB f1<|CC<|BB f1<|MM KX<|BB f1<|EE P'<|BB f1<|CC<|VV (aJ (a:=some (AV.bool true)) (b:=some (AV.bool (!(aF ((t.rows.g i0).ae))))) f1)<|CC<|BB f2<|CC<|BB f2<|MM (aw 22 0 t.ak dg k!)<|BB f2<|CC<|BB f2<|VV Qt<|BB f2<|CC<|BB f2<|MM Qu<|BB f2<|EE ND<|BB f2<|CC<|VV (aJ (a:=some (AV.bool true)) (b:=some (AV.bool (!(aF ((t.rows.g i0).out))))) f2)<|BB f3<|CC<|VV Qv<|CC<|ZZ) k!
         exact aY.round (by simp only[cD,f1,f2,f3,cond_true,cond_false]) ev (cG.refl bb) (fun x=>((x 0)::(AV.ptr cC 0)::(x 2)::(AV.int .i64 (((i0+1):Nat):Int))::rx x 4 49 [])) k! (fun x=>hB t cC bk l8 eG (i0+1) o! x hh bb aR dg)
def ay (t:aK):Int:=(bif (decide (64<((t.rows.length:Nat):Int))) then 3 else (match (cD t t.rows.length 0) with | none=>(bif (!(aF t.rest)) then 1 else (bif (!(aF t.day)) then 1 else 0)) | some BS=>BS))
theorem cg {d:Nat} {h:ar} (t:aK) (b8:aD.ok h t) (b4:Tidy h):eD (d+2) (.fn 9) [(AV.agg [t.ak,(AV.int .i64 t.rest),(AV.int .i64 t.day)])] h= .ret (AV.int .i64 (ay t)) h:=by
 rcases Bool.eq_false_or_eq_true (decide (64<((t.rows.length:Nat):Int))) with f0 | f0
 · have fH:=of_decide_eq_true f0
   obtain ⟨h1,bm,aL,cu,aE,bh⟩:=cj b4 (aH.cells [t.ak,(AV.int .i64 t.rest),(AV.int .i64 t.day)] 24 false)
   have aG:Has h h1:=bh
   have BL:cJ (some (.slice 67)) (some t.ak)=some (AV.int .i64 ((t.rows.length:Nat):Int)):=b8.len
   have ev:=pk (d+1) eL ((AV.agg [t.ak,(AV.int .i64 t.rest),(AV.int .i64 t.day)])::cz 52) h .ret h1 (NN bm (fun i=>(AV.ptr i 0))<|CN 2<|MM (aw 22 0 t.ak aE k!)<|VV BL<|VV (dA 3 false true .i64 ((t.rows.length:Nat):Int) 64)<|BB f0<|CC<|ZZ) k!
   have e:ay t=3:=by simp only[ay,f0,cond_true,cond_false]
   rw[e]
   exact az rfl (bz Tryz.func9 jr k! (.inr rfl) ev k!) aG rfl
 · have fH:=of_decide_eq_false f0
   cases eT:cD t t.rows.length 0 with
   | none=>
     rcases Bool.eq_false_or_eq_true (!(aF t.rest)) with f2 | f2
     · obtain ⟨h1,bm,aL,cu,aE,bh⟩:=cj b4 (aH.cells [t.ak,(AV.int .i64 t.rest),(AV.int .i64 t.day)] 24 false)
       have aG:Has h h1:=bh
       have BL:cJ (some (.slice 67)) (some t.ak)=some (AV.int .i64 ((t.rows.length:Nat):Int)):=b8.len
       obtain ⟨Av,h5,eI,bJ⟩:=aY.n eT (hB (d:=d) (h:=h) t h.nx b8 b8 t.rows.length 0 o! (fun k_=>(((AV.agg [t.ak,(AV.int .i64 t.rest),(AV.int .i64 t.day)])::(AV.ptr h.nx 0)::(AV.int .i64 0)::(AV.int .i64 0)::(AV.ptr h.nx 0)::t.ak::(AV.int .i64 ((t.rows.length:Nat):Int))::(AV.bool (decide (64<((t.rows.length:Nat):Int))))::cz 45):List AV).getD k_ AV.undef) h1 aL aG aE)
       have eB:=bJ.y
       have lD:h1.nx≤h5.nx:=bJ.n
       have ck:Has h h5:=aG.trans bJ.a
       have k6:=a_ (d:=d) t.rest eB
       have ev:=pk (d+1) eL ((AV.agg [t.ak,(AV.int .i64 t.rest),(AV.int .i64 t.day)])::cz 52) h .ret h5 (NN bm (fun i=>(AV.ptr i 0))<|CN 2<|MM (aw 22 0 t.ak aE k!)<|VV BL<|VV (dA 3 false true .i64 ((t.rows.length:Nat):Int) 64)<|BB f0<|CC<|LL eI<|CC<|MM (aw 3 1 (AV.int .i64 t.rest) (bJ.a _ _ aE) k!)<|EE k6<|CN 2<|BB f2<|BB f2<|BB f2<|BB f2<|VV (aX (a:=some (AV.bool true)) (b:=some AV.undef) f2)<|TT<|CC<|ZZ) k!
       have e:ay t=1:=by simp only[ay,f0,eT,f2,cond_true,cond_false]
       rw[e]
       exact az rfl (bz Tryz.func9 jr k! (.inr rfl) ev k!) ck rfl
     · rcases Bool.eq_false_or_eq_true (!(aF t.day)) with f3 | f3
       · obtain ⟨h1,bm,aL,cu,aE,bh⟩:=cj b4 (aH.cells [t.ak,(AV.int .i64 t.rest),(AV.int .i64 t.day)] 24 false)
         have aG:Has h h1:=bh
         have BL:cJ (some (.slice 67)) (some t.ak)=some (AV.int .i64 ((t.rows.length:Nat):Int)):=b8.len
         obtain ⟨Av,h5,eI,bJ⟩:=aY.n eT (hB (d:=d) (h:=h) t h.nx b8 b8 t.rows.length 0 o! (fun k_=>(((AV.agg [t.ak,(AV.int .i64 t.rest),(AV.int .i64 t.day)])::(AV.ptr h.nx 0)::(AV.int .i64 0)::(AV.int .i64 0)::(AV.ptr h.nx 0)::t.ak::(AV.int .i64 ((t.rows.length:Nat):Int))::(AV.bool (decide (64<((t.rows.length:Nat):Int))))::cz 45):List AV).getD k_ AV.undef) h1 aL aG aE)
         have eB:=bJ.y
         have lD:h1.nx≤h5.nx:=bJ.n
         have ck:Has h h5:=aG.trans bJ.a
         have k6:=a_ (d:=d) t.rest eB
         have k8:=a_ (d:=d) t.day eB
         have ev:=pk (d+1) eL ((AV.agg [t.ak,(AV.int .i64 t.rest),(AV.int .i64 t.day)])::cz 52) h .ret h5 (NN bm (fun i=>(AV.ptr i 0))<|CN 2<|MM (aw 22 0 t.ak aE k!)<|VV BL<|VV (dA 3 false true .i64 ((t.rows.length:Nat):Int) 64)<|BB f0<|CC<|LL eI<|CC<|MM (aw 3 1 (AV.int .i64 t.rest) (bJ.a _ _ aE) k!)<|EE k6<|CN 2<|BB f2<|CC<|BB f2<|MM (aw 3 2 (AV.int .i64 t.day) (bJ.a _ _ aE) k!)<|BB f2<|EE k8<|BB f2<|CC<|VV (aJ (a:=some (AV.bool true)) (b:=some (AV.bool (!(aF t.day)))) f2)<|BB f3<|CC<|ZZ) k!
         have e:ay t=1:=by simp only[ay,f0,eT,f2,f3,cond_true,cond_false]
         rw[e]
         exact az rfl (bz Tryz.func9 jr k! (.inr rfl) ev k!) ck rfl
       · obtain ⟨h1,bm,aL,cu,aE,bh⟩:=cj b4 (aH.cells [t.ak,(AV.int .i64 t.rest),(AV.int .i64 t.day)] 24 false)
         have aG:Has h h1:=bh
         have BL:cJ (some (.slice 67)) (some t.ak)=some (AV.int .i64 ((t.rows.length:Nat):Int)):=b8.len
         obtain ⟨Av,h5,eI,bJ⟩:=aY.n eT (hB (d:=d) (h:=h) t h.nx b8 b8 t.rows.length 0 o! (fun k_=>(((AV.agg [t.ak,(AV.int .i64 t.rest),(AV.int .i64 t.day)])::(AV.ptr h.nx 0)::(AV.int .i64 0)::(AV.int .i64 0)::(AV.ptr h.nx 0)::t.ak::(AV.int .i64 ((t.rows.length:Nat):Int))::(AV.bool (decide (64<((t.rows.length:Nat):Int))))::cz 45):List AV).getD k_ AV.undef) h1 aL aG aE)
         have eB:=bJ.y
         have lD:h1.nx≤h5.nx:=bJ.n
         have ck:Has h h5:=aG.trans bJ.a
         have k6:=a_ (d:=d) t.rest eB
         have k8:=a_ (d:=d) t.day eB
         have ev:=pk (d+1) eL ((AV.agg [t.ak,(AV.int .i64 t.rest),(AV.int .i64 t.day)])::cz 52) h .ret h5 (NN bm (fun i=>(AV.ptr i 0))<|CN 2<|MM (aw 22 0 t.ak aE k!)<|VV BL<|VV (dA 3 false true .i64 ((t.rows.length:Nat):Int) 64)<|BB f0<|CC<|LL eI<|CC<|MM (aw 3 1 (AV.int .i64 t.rest) (bJ.a _ _ aE) k!)<|EE k6<|CN 2<|BB f2<|CC<|BB f2<|MM (aw 3 2 (AV.int .i64 t.day) (bJ.a _ _ aE) k!)<|BB f2<|EE k8<|BB f2<|CC<|VV (aJ (a:=some (AV.bool true)) (b:=some (AV.bool (!(aF t.day)))) f2)<|BB f3<|CC<|ZZ) k!
         have e:ay t=0:=by simp only[ay,f0,eT,f2,f3,cond_true,cond_false]
         rw[e]
         exact az rfl (bz Tryz.func9 jr k! (.inr rfl) ev k!) ck rfl
   | some BS=>
     obtain ⟨h1,bm,aL,cu,aE,bh⟩:=cj b4 (aH.cells [t.ak,(AV.int .i64 t.rest),(AV.int .i64 t.day)] 24 false)
     have aG:Has h h1:=bh
     have BL:cJ (some (.slice 67)) (some t.ak)=some (AV.int .i64 ((t.rows.length:Nat):Int)):=b8.len
     obtain ⟨Av,h5,eI,bJ⟩:=aY.r eT (hB (d:=d) (h:=h) t h.nx b8 b8 t.rows.length 0 o! (fun k_=>(((AV.agg [t.ak,(AV.int .i64 t.rest),(AV.int .i64 t.day)])::(AV.ptr h.nx 0)::(AV.int .i64 0)::(AV.int .i64 0)::(AV.ptr h.nx 0)::t.ak::(AV.int .i64 ((t.rows.length:Nat):Int))::(AV.bool (decide (64<((t.rows.length:Nat):Int))))::cz 45):List AV).getD k_ AV.undef) h1 aL aG aE)
     have eB:=bJ.y
     have lD:h1.nx≤h5.nx:=bJ.n
     have ck:Has h h5:=aG.trans bJ.a
     have ev:=pk (d+1) eL ((AV.agg [t.ak,(AV.int .i64 t.rest),(AV.int .i64 t.day)])::cz 52) h .ret h5 (NN bm (fun i=>(AV.ptr i 0))<|CN 2<|MM (aw 22 0 t.ak aE k!)<|VV BL<|VV (dA 3 false true .i64 ((t.rows.length:Nat):Int) 64)<|BB f0<|CC<|LL eI<|ZZ) k!
     have e:ay t=BS:=by simp only[ay,f0,eT,cond_true,cond_false]
     rw[e]
     exact az rfl (bz Tryz.func9 jr k! (.inr rfl) ev k!) ck rfl
end Go.Proofs.bt
