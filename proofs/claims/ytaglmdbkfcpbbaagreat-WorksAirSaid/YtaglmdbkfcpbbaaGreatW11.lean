import Derived.Test.YtaglmdbkfcpbbaaGreatW0
import Derived.Test.YtaglmdbkfcpbbaaGreatW8
import Derived.Test.YtaglmdbkfcpbbaaGreatW6
import Derived.Test.YtaglmdbkfcpbbaaGreatW7
import Derived.Test.YtaglmdbkfcpbbaaGreatW5
namespace Go.Proofs.bt
open Go.Proofs Ab
set_option maxRecDepth 100000
set_option maxHeartbeats 4000000
set_option linter.unusedVariables false
set_option linter.unusedSimpArgs false
noncomputable def dO:Code:=(Tryz.f14.body).getD .skip
theorem iL:Tryz.f14.body=some dO:=by kernel_rfl
noncomputable def pW:Code:=(dD dO).getD 0 .skip
noncomputable def nD:Code:=(dD dO).getD 1 .skip
def jH (t:aK) (l_:List aO):Nat→Nat→Option (aO×Int)
 | 0,_=>none
 | eG+1,i0=>(bif (!decide ((((aC t l_).1).g i0)=0)) then some ((⟨[],0,0,0,0⟩:aO),8) else jH t l_ eG (i0+1))
theorem eR {d:Nat} {h:ar} {g_:ar} (bA:AV) (worker:List UInt8) (ab:Int) (ae:Int) (ready:Int) (z3:AV) (t:aK) (l_:List aO) (cC:Nat) (lG:Nat) (bk:bD g_ bA l_) (ft:worker.length<2^60) (BN:bD g_ t.ak t.rows) (zP:fW g_ .u8 81 z3 ((aC t l_).1)) (l8:aD.ok g_ t) (b4:Tidy h) (WE:h.nx≤cC) (WG:h.nx≤lG) (QT:lG≠cC):∀(k_ i_:Nat) (_:i_+k_=(((aC t l_).1).length)) (x:Nat→AV) (hh:ar) (bb:Tidy hh) (aR:Has h hh) (hI:Has g_ hh) (dg:hh.get cC=some (aH.cells [t.ak,(AV.int .i64 t.rest),(AV.int .i64 t.day)] 24 false)) (lk:hh.get lG=some (aH.cells [(AV.str []),(AV.int .i64 0),(AV.int .i64 0),(AV.int .i64 0),(AV.int .i64 0)] 37 false)),cy (eD (d+3)) pW ⟨((x 0)::bA::(AV.str worker)::(AV.int .i64 ab)::(AV.int .i64 ae)::(AV.int .i64 ready)::(AV.ptr cC 0)::rx x 7 5 ((AV.ptr lG 0)::(x 13)::z3::(x 15)::(AV.int .i64 ((i_:Nat):Int))::rx x 17 107 [])),hh,[],.no⟩ (.exit 0) h hh (fun y=>((y 0)::bA::(AV.str worker)::(AV.int .i64 ab)::(AV.int .i64 ae)::(AV.int .i64 ready)::(AV.ptr cC 0)::rx y 7 5 ((AV.ptr lG 0)::(y 13)::z3::rx y 15 109 []))) (fun r y=>((y 0)::bA::(AV.str worker)::(AV.int .i64 ab)::(AV.int .i64 ae)::(AV.int .i64 ready)::(AV.ptr cC 0)::rx y 7 5 ((AV.ptr lG 0)::(AV.int .i64 r.2)::z3::rx y 15 109 []))) lG (fun r=> .cells (aD.c r.1) 37 false) (jH t l_ k_ i_)
 | 0,i0,qo,x,hh,bb,aR,hI,dg,lk=>by
   have fK:=bk.small
   have QU:=BN.small
   have QV:=zP.small
   have sW:=bb _ _ dg
   have Qx:=bb _ _ lk
   have pX:=aR
   have hS:cJ (some (.slice 81)) (some z3)=some (AV.int .i64 ((((aC t l_).1).length:Nat):Int)):=(zP.has hI).len
   have q2:(decide (((i0:Nat):Int)<((((aC t l_).1).length:Nat):Int)))=false:=d!
   have ev:=pk (d+3) pW ((x 0)::bA::(AV.str worker)::(AV.int .i64 ab)::(AV.int .i64 ae)::(AV.int .i64 ready)::(AV.ptr cC 0)::rx x 7 5 ((AV.ptr lG 0)::(x 13)::z3::(x 15)::(AV.int .i64 ((i0:Nat):Int))::rx x 17 107 [])) hh (.exit 0) hh (CN 2<|VV hS<|VV (bT 3 false false .i64 ((i0:Nat):Int) ((((aC t l_).1).length:Nat):Int))<|BB q2<|ZZ) k!
   exact cy.out rfl ev (cG.refl bb) k!
 | eG+1,i0,qo,x,hh,bb,aR,hI,dg,lk=>by
   have fK:=bk.small
   have QU:=BN.small
   have QV:=zP.small
   have sW:=bb _ _ dg
   have Qx:=bb _ _ lk
   rcases Bool.eq_false_or_eq_true (!decide ((((aC t l_).1).g i0)=0)) with f1 | f1
   · have jn:=sS f1
     have pX:=aR
     have hS:cJ (some (.slice 81)) (some z3)=some (AV.int .i64 ((((aC t l_).1).length:Nat):Int)):=(zP.has hI).len
     have q2:(decide (((i0:Nat):Int)<((((aC t l_).1).length:Nat):Int)))=true:=d!
     obtain ⟨p4,q5,js,_⟩:=(zP.has hI).elem (i:=i0) o!
     have nM:c_ env (some (.slice 81)) (some z3) (some (AV.int .i64 ((i0:Nat):Int)))=some (AV.ptr p4 q5):=js
     have wR:bN env hh 81 (AV.ptr p4 q5)=some (AV.int .u8 (((aC t l_).1).g i0)):=(zP.has hI).load o! js
     obtain ⟨h8,Lz,cT,zO,me,qh⟩:=dW (t:=37) (n:=5) (i:=lG) (L:=[(AV.str []),(AV.int .i64 0),(AV.int .i64 0),(AV.int .i64 0),(AV.int .i64 0)]) bb lk k! rfl rfl (by simp only[AV.cells,List.all_cons,List.all_nil,Bool.and_true,Bool.and_self,bP,bB,bQ,bR,bl,cm,cn,cq,cr,ct,bS])
     have tf:Has h h8:=Has.aU pX qh b4 o!
     have ev:=pk (d+3) pW ((x 0)::bA::(AV.str worker)::(AV.int .i64 ab)::(AV.int .i64 ae)::(AV.int .i64 ready)::(AV.ptr cC 0)::rx x 7 5 ((AV.ptr lG 0)::(x 13)::z3::(x 15)::(AV.int .i64 ((i0:Nat):Int))::rx x 17 107 [])) hh .ret h8 (CN 2<|VV hS<|VV (bT 3 false false .i64 ((i0:Nat):Int) ((((aC t l_).1).length:Nat):Int))<|BB q2<|CN 2<|VV nM<|MM wR<|VV (cS 81 false true .u8 (((aC t l_).1).g i0) 0)<|BB f1<|CC<|SS Lz<|CC<|ZZ) k!
     exact cy.ret ((⟨[],0,0,0,0⟩:aO),8) (by simp only[jH,f1,cond_true,cond_false]) ev cT tf o! me k!
   · have jn:=sU f1
     have pX:=aR
     have hS:cJ (some (.slice 81)) (some z3)=some (AV.int .i64 ((((aC t l_).1).length:Nat):Int)):=(zP.has hI).len
     have q2:(decide (((i0:Nat):Int)<((((aC t l_).1).length:Nat):Int)))=true:=d!
     obtain ⟨p4,q5,js,_⟩:=(zP.has hI).elem (i:=i0) o!
     have nM:c_ env (some (.slice 81)) (some z3) (some (AV.int .i64 ((i0:Nat):Int)))=some (AV.ptr p4 q5):=js
     have wR:bN env hh 81 (AV.ptr p4 q5)=some (AV.int .u8 (((aC t l_).1).g i0)):=(zP.has hI).load o! js
     have u8:=hJ 3 false true i0 1 o!
     have ev:=pk (d+3) pW ((x 0)::bA::(AV.str worker)::(AV.int .i64 ab)::(AV.int .i64 ae)::(AV.int .i64 ready)::(AV.ptr cC 0)::rx x 7 5 ((AV.ptr lG 0)::(x 13)::z3::(x 15)::(AV.int .i64 ((i0:Nat):Int))::rx x 17 107 [])) hh .normal hh (CN 2<|VV hS<|VV (bT 3 false false .i64 ((i0:Nat):Int) ((((aC t l_).1).length:Nat):Int))<|BB q2<|CN 2<|VV nM<|MM wR<|VV (cS 81 false true .u8 (((aC t l_).1).g i0) 0)<|BB f1<|CC<|VV u8<|CC<|ZZ) k!
     exact cy.round (by simp only[jH,f1,cond_true,cond_false]) ev (cG.refl bb) (fun x=>((x 0)::bA::(AV.str worker)::(AV.int .i64 ab)::(AV.int .i64 ae)::(AV.int .i64 ready)::(AV.ptr cC 0)::rx x 7 5 ((AV.ptr lG 0)::(x 13)::z3::(x 15)::(AV.int .i64 (((i0+1):Nat):Int))::rx x 17 107 []))) k! (fun x=>eR bA worker ab ae ready z3 t l_ cC lG bk ft BN zP l8 b4 WE WG QT eG (i0+1) o! x hh bb aR hI dg lk)
def gT (worker:List UInt8) (ab:Int) (ae:Int) (t:aK) (l_:List aO):Nat→Int→Option (aO×Int)
 | 0,aW=>none
 | QB+1,aW=>(bif (decide (((aW+ae)+(aA t ab ae))≤100000)) then (bif (decide ((cX t ((([]:List aO)++l_)++([(⟨worker,ab,aW,(aW+ae),((aW+ae)+(aA t ab ae))⟩:aO)])) ((l_.length:Nat):Int))=0)) then some ((⟨worker,ab,aW,(aW+ae),((aW+ae)+(aA t ab ae))⟩:aO),0) else gT worker ab ae t l_ QB (aW+1)) else none)
theorem mg {d:Nat} {h:ar} {g_:ar} (bA:AV) (worker:List UInt8) (ab:Int) (ae:Int) (t:aK) (l_:List aO) (oS:Nat) (uJ:Nat) (nN:bD g_ bA l_) (FD:worker.length<2^60) (QW:bD g_ t.ak t.rows) (Ir:aD.ok g_ t) (QC:0<ae) (WH:ae≤100000) (WI:0≤aA t ab ae) (WJ:aA t ab ae≤100000) (WK:l_.length≤128) (b4:Tidy h) (WL:h.nx≤oS) (WM:h.nx≤uJ) (QX:uJ≠oS):∀(k_:Nat) (aW:Int) (_:(100001 - aW≤(k_:Int))) (_:(0≤aW∧aW≤100000)) (x:Nat→AV) (hh:ar) (bb:Tidy hh) (aR:Has h hh) (hI:Has g_ hh) (wX:hh.get oS=some (aH.cells [t.ak,(AV.int .i64 t.rest),(AV.int .i64 t.day)] 24 false)) (IB:hh.get uJ=some (aH.cells [(AV.str []),(AV.int .i64 0),(AV.int .i64 0),(AV.int .i64 0),(AV.int .i64 0)] 37 false)),cy (eD (d+3)) nD ⟨((x 0)::bA::(AV.str worker)::(AV.int .i64 ab)::(AV.int .i64 ae)::(x 5)::(AV.ptr oS 0)::rx x 7 5 ((AV.ptr uJ 0)::rx x 13 4 ((AV.int .i64 (aA t ab ae))::(x 18)::(AV.int .i64 aW)::rx x 20 104 []))),hh,[],.no⟩ (.exit 3) h hh (fun y=>((y 0)::bA::(AV.str worker)::(AV.int .i64 ab)::(AV.int .i64 ae)::(y 5)::(AV.ptr oS 0)::rx y 7 5 ((AV.ptr uJ 0)::rx y 13 4 ((AV.int .i64 (aA t ab ae))::rx y 18 106 [])))) (fun r y=>((y 0)::bA::(AV.str worker)::(AV.int .i64 ab)::(AV.int .i64 ae)::(y 5)::(AV.ptr oS 0)::rx y 7 5 ((AV.ptr uJ 0)::(AV.int .i64 r.2)::rx y 14 3 ((AV.int .i64 (aA t ab ae))::rx y 18 106 [])))) uJ (fun r=> .cells (aD.c r.1) 37 false) (gT worker ab ae t l_ k_ aW)
 | 0,aW,qo,KY,x,hh,bb,aR,hI,wX,IB=>by
   have FE:=nN.small
   have QY:=QW.small
   have QE:=bb _ _ wX
   have WN:=bb _ _ IB
   have pX:=aR
   have w1:IntKind.i64.wrap (aW+ae)=aW+ae:=wrap_i64 o! o!
   have w2:IntKind.i64.wrap ((aW+ae)+(aA t ab ae))=(aW+ae)+(aA t ab ae):=wrap_i64 o! o!
   have q3:(decide (((aW+ae)+(aA t ab ae))≤100000))=false:=d!
   have ev:=pk (d+3) nD ((x 0)::bA::(AV.str worker)::(AV.int .i64 ab)::(AV.int .i64 ae)::(x 5)::(AV.ptr oS 0)::rx x 7 5 ((AV.ptr uJ 0)::rx x 13 4 ((AV.int .i64 (aA t ab ae))::(x 18)::(AV.int .i64 aW)::rx x 20 104 []))) hh (.exit 3) hh (CN 2<|VV (nK 3 false false w1)<|CC<|VV (nK 3 false false w2)<|VV (gZ 3 false true .i64 ((aW+ae)+(aA t ab ae)) 100000)<|BB q3<|ZZ) k!
   exact cy.out rfl ev (cG.refl bb) k!
 | QB+1,aW,qo,KY,x,hh,bb,aR,hI,wX,IB=>by
   have FE:=nN.small
   have QY:=QW.small
   have QE:=bb _ _ wX
   have WN:=bb _ _ IB
   rcases Bool.eq_false_or_eq_true (decide (((aW+ae)+(aA t ab ae))≤100000)) with f0 | f0
   · have fH:=of_decide_eq_true f0
     rcases Bool.eq_false_or_eq_true (decide ((cX t ((([]:List aO)++l_)++([(⟨worker,ab,aW,(aW+ae),((aW+ae)+(aA t ab ae))⟩:aO)])) ((l_.length:Nat):Int))=0)) with f1 | f1
     · have jn:=of_decide_eq_true f1
       have pX:=aR
       have w1:IntKind.i64.wrap (aW+ae)=aW+ae:=wrap_i64 o! o!
       have w2:IntKind.i64.wrap ((aW+ae)+(aA t ab ae))=(aW+ae)+(aA t ab ae):=wrap_i64 o! o!
       have w4:IntKind.i64.wrap (aW+ae)=aW+ae:=wrap_i64 o! o!
       have w5:IntKind.i64.wrap (aW+ae)=aW+ae:=wrap_i64 o! o!
       have w6:IntKind.i64.wrap ((aW+ae)+(aA t ab ae))=(aW+ae)+(aA t ab ae):=wrap_i64 o! o!
       obtain ⟨h7,QZ,eA,oO,cc,zQ⟩:=cj bb (aH.cells [(AV.str []),(AV.int .i64 0),(AV.int .i64 0),(AV.int .i64 0),(AV.int .i64 0)] 37 false)
       have FU:Has h h7:=pX.trans zQ
       have di:Has hh h7:=zQ
       obtain ⟨h8,Lz,cT,zO,me,qh⟩:=dW (t:=37) (n:=5) (i:=hh.nx) (L:=[(AV.str worker),(AV.int .i64 ab),(AV.int .i64 aW),(AV.int .i64 (aW+ae)),(AV.int .i64 ((aW+ae)+(aA t ab ae)))]) eA cc k! rfl rfl (by simp only[AV.cells,List.all_cons,List.all_nil,Bool.and_true,Bool.and_self,bP,bB,bQ,bR,bl,cm,cn,cq,cr,ct,bS])
       have tf:Has h h8:=Has.aU FU qh b4 o!
       have dJ:Has hh h8:=Has.aU di qh bb o!
       obtain ⟨h9,BV,dZ,vx,eZ,pQ⟩:=cj cT (aH.cells [] 37 false)
       have FV:Has h h9:=tf.trans pQ
       have g8:Has hh h9:=dJ.trans pQ
       have B5:Has h8 h9:=pQ
       obtain ⟨nG,oW,j0,wx,ku,ch⟩:=cj dZ (aH.cells [(AV.str worker),(AV.int .i64 ab),(AV.int .i64 aW),(AV.int .i64 (aW+ae)),(AV.int .i64 ((aW+ae)+(aA t ab ae)))] 37 false)
       have B6:Has h nG:=FV.trans ch
       have gC:Has hh nG:=g8.trans ch
       have rC:Has h8 nG:=B5.trans ch
       obtain ⟨Q0,rW,FW,nX,TF,TG,LA,kp⟩:=iV.S3 (tys:= #[25,25]) (l:=([]:List aO)) (m:=l_) (x:=bA) j0 cT rC o! (.inl ⟨.inr ⟨_,rfl,(Nat.le_refl _),(ch _ _ eZ)⟩,rfl⟩:iV h8 nG (AV.slice h8.nx 0 0 0 false) ([]:List aO)) ((nN.has hI).has gC).nH ((nN.has hI).has gC).first (wk ((nN.has hI).has gC) fun y hy=>aO.sc (((nN.has hI).has gC).NG y hy)) (by first | omega | (simp;omega)) rfl rfl k! k! (bytes:=48) k! (z0:=(AV.agg [(AV.str []),(AV.int .i64 0),(AV.int .i64 0),(AV.int .i64 0),(AV.int .i64 0)])) k! rfl (by decide)
       have NV:Has h rW:=B6.trans kp
       have l6:Has hh rW:=gC.trans kp
       have zd:Has h8 rW:=rC.trans kp
       have ze:∀y∈(([]:List aO)++l_),aD.ok rW y:=BI kp (yw (fun y hy=>by cases hy) ((nN.has hI).has gC).NG)
       have FX:bD rW Q0 (([]:List aO)++l_):=iV.rows LA (by first | omega | (simp;omega)) ze
       have LB:=FX.small
       obtain ⟨Iz,oR,FY,qd,Az,oZ,Q1,Q2⟩:=iV.app (tys:= #[25,25]) (l:=(([]:List aO)++l_)) (m:=[(⟨worker,ab,aW,(aW+ae),((aW+ae)+(aA t ab ae))⟩:aO)]) (x:=(AV.slice h9.nx 0 1 1 false)) nX cT zd o! LA rfl (sR (x:=(⟨worker,ab,aW,(aW+ae),((aW+ae)+(aA t ab ae))⟩:aO)) (kp _ _ ku)) (by simp [aD.c,aO.c,AV.scalar]) (by first | omega | (simp;omega)) rfl rfl k! k! (bytes:=48) k! (z0:=(AV.agg [(AV.str []),(AV.int .i64 0),(AV.int .i64 0),(AV.int .i64 0),(AV.int .i64 0)])) k! rfl (by decide)
       have Hl:Has h oR:=tf.trans oZ
       have j2:Has hh oR:=dJ.trans oZ
       have LC:Has h8 oR:=oZ
       have FZ:∀y∈((([]:List aO)++l_)++([(⟨worker,ab,aW,(aW+ae),((aW+ae)+(aA t ab ae))⟩:aO)])),aD.ok oR y:=xa (D:=aO) (yw ze (ok_one FD))
       have zf:bD oR Iz ((([]:List aO)++l_)++([(⟨worker,ab,aW,(aW+ae),((aW+ae)+(aA t ab ae))⟩:aO)])):=iV.rows Q1 (by first | omega | (simp;omega)) FZ
       have LD:=zf.small
       have TH:AV.same 20 (AV.agg [(AV.str worker),(AV.int .i64 ab),(AV.int .i64 aW),(AV.int .i64 (aW+ae)),(AV.int .i64 ((aW+ae)+(aA t ab ae)))]) (AV.agg [(AV.str worker),(AV.int .i64 ab),(AV.int .i64 aW),(AV.int .i64 (aW+ae)),(AV.int .i64 ((aW+ae)+(aA t ab ae)))])=true:=fq 18 (kz (fun n=>iI n _) (kz (fun n=>aQ n _ _) (kz (fun n=>aQ n _ _) (kz (fun n=>aQ n _ _) (kz (fun n=>aQ n _ _) Dz)))))
       have Q3:cJ (some (.slice 37)) (some bA)=some (AV.int .i64 ((l_.length:Nat):Int)):=(nN.has hI).len
       have ND:=vy (d:=d+1) t ((([]:List aO)++l_)++([(⟨worker,ab,aW,(aW+ae),((aW+ae)+(aA t ab ae))⟩:aO)])) ((l_.length:Nat):Int) (aD.mono j2 (aD.mono hI Ir)) zf (by first | omega | assumption | (simp only[List.length_set,List.length_replicate,List.length_append,List.length_cons,List.length_nil,List.nil_append]<;>omega) | (rw[List.length_take];omega)) (by first | omega | assumption | (simp only[List.length_set,List.length_replicate,List.length_append,List.length_cons,List.length_nil,List.nil_append]<;>omega) | (rw[List.length_take];omega)) qd
       obtain ⟨Hd,D0,uC,He,nB,fh⟩:=dW (t:=37) (n:=5) (i:=uJ) (L:=[(AV.str worker),(AV.int .i64 ab),(AV.int .i64 aW),(AV.int .i64 (aW+ae)),(AV.int .i64 ((aW+ae)+(aA t ab ae)))]) qd (oZ _ _ (qh _ _ o! (zQ _ _ IB))) k! rfl rfl (by simp only[AV.cells,List.all_cons,List.all_nil,Bool.and_true,Bool.and_self,bP,bB,bQ,bR,bl,cm,cn,cq,cr,ct,bS])
       have NW:Has h Hd:=Has.aU Hl fh b4 o!
       have ev:=pk (d+3) nD ((x 0)::bA::(AV.str worker)::(AV.int .i64 ab)::(AV.int .i64 ae)::(x 5)::(AV.ptr oS 0)::rx x 7 5 ((AV.ptr uJ 0)::rx x 13 4 ((AV.int .i64 (aA t ab ae))::(x 18)::(AV.int .i64 aW)::rx x 20 104 []))) hh .ret Hd (CN 2<|VV (nK 3 false false w1)<|CC<|VV (nK 3 false false w2)<|VV (gZ 3 false true .i64 ((aW+ae)+(aA t ab ae)) 100000)<|BB f0<|CN 5<|VV (nK 3 false false w4)<|CN 2<|VV (nK 3 false false w5)<|CC<|VV (nK 3 false false w6)<|CC<|NN QZ (fun i=>(AV.ptr i 0))<|SS Lz<|NN BV (fun i=>(AV.slice i 0 0 0 false))<|CC<|MM (aw 37 0 (AV.agg [(AV.str worker),(AV.int .i64 ab),(AV.int .i64 aW),(AV.int .i64 (aW+ae)),(AV.int .i64 ((aW+ae)+(aA t ab ae)))]) (pQ _ _ me) k!)<|NN oW (fun i=>(AV.slice i 0 1 1 false))<|PP (show da env nG #[25,25] (AV.slice h8.nx 0 0 0 false) bA=some (Q0,rW) from FW)<|PP (show da env rW #[25,25] Q0 (AV.slice h9.nx 0 1 1 false)=some (Iz,oR) from FY)<|CC<|HH (show ∃o,nG.get h8.nx=some o∧aH.same o (aH.cells [] 37 false)=true from ⟨_,(ch _ _ eZ),by simp [aH.same,dU,AV.same]⟩)<|HH (aw 37 0 (AV.agg [(AV.str worker),(AV.int .i64 ab),(AV.int .i64 aW),(AV.int .i64 (aW+ae)),(AV.int .i64 ((aW+ae)+(aA t ab ae)))]) (ch _ _ (pQ _ _ me)) k!)<|HH TH<|HH (aw 37 0 (AV.agg [(AV.str worker),(AV.int .i64 ab),(AV.int .i64 aW),(AV.int .i64 (aW+ae)),(AV.int .i64 ((aW+ae)+(aA t ab ae)))]) (kp _ _ (ch _ _ (pQ _ _ me))) k!)<|HH TH<|HH (show ∃o,nG.get h9.nx=some o∧aH.same o (aH.cells [(AV.str worker),(AV.int .i64 ab),(AV.int .i64 aW),(AV.int .i64 (aW+ae)),(AV.int .i64 ((aW+ae)+(aA t ab ae)))] 37 false)=true from ⟨_,ku,by simp [aH.same,dU,AV.same]⟩)<|HH (show ∃o,rW.get h9.nx=some o∧aH.same o (aH.cells [(AV.str worker),(AV.int .i64 ab),(AV.int .i64 aW),(AV.int .i64 (aW+ae)),(AV.int .i64 ((aW+ae)+(aA t ab ae)))] 37 false)=true from ⟨_,(kp _ _ ku),by simp [aH.same,dU,AV.same]⟩)<|HH (show nodup [h8.nx,h9.nx]=true from (by simp [nodup];omega))<|MM (aw 24 0 (AV.agg [t.ak,(AV.int .i64 t.rest),(AV.int .i64 t.day)]) (oZ _ _ (qh _ _ o! (zQ _ _ wX))) k!)<|CN 2<|VV Q3<|EE ND<|VV (dC 81 false true .u8 (cX t ((([]:List aO)++l_)++([(⟨worker,ab,aW,(aW+ae),((aW+ae)+(aA t ab ae))⟩:aO)])) ((l_.length:Nat):Int)) 0)<|BB f1<|MM (aw 37 0 (AV.agg [(AV.str worker),(AV.int .i64 ab),(AV.int .i64 aW),(AV.int .i64 (aW+ae)),(AV.int .i64 ((aW+ae)+(aA t ab ae)))]) (oZ _ _ me) k!)<|SS D0<|CC<|ZZ) k!
       exact cy.ret ((⟨worker,ab,aW,(aW+ae),((aW+ae)+(aA t ab ae))⟩:aO),0) (by simp only[gT,f0,f1,cond_true,cond_false]) ev uC NW o! nB k!
     · have jn:=of_decide_eq_false f1
       have pX:=aR
       have w1:IntKind.i64.wrap (aW+ae)=aW+ae:=wrap_i64 o! o!
       have w2:IntKind.i64.wrap ((aW+ae)+(aA t ab ae))=(aW+ae)+(aA t ab ae):=wrap_i64 o! o!
       have w4:IntKind.i64.wrap (aW+ae)=aW+ae:=wrap_i64 o! o!
       have w5:IntKind.i64.wrap (aW+ae)=aW+ae:=wrap_i64 o! o!
       have w6:IntKind.i64.wrap ((aW+ae)+(aA t ab ae))=(aW+ae)+(aA t ab ae):=wrap_i64 o! o!
       obtain ⟨h7,QZ,eA,oO,cc,zQ⟩:=cj bb (aH.cells [(AV.str []),(AV.int .i64 0),(AV.int .i64 0),(AV.int .i64 0),(AV.int .i64 0)] 37 false)
       have FU:Has h h7:=pX.trans zQ
       have di:Has hh h7:=zQ
       obtain ⟨h8,Lz,cT,zO,me,qh⟩:=dW (t:=37) (n:=5) (i:=hh.nx) (L:=[(AV.str worker),(AV.int .i64 ab),(AV.int .i64 aW),(AV.int .i64 (aW+ae)),(AV.int .i64 ((aW+ae)+(aA t ab ae)))]) eA cc k! rfl rfl (by simp only[AV.cells,List.all_cons,List.all_nil,Bool.and_true,Bool.and_self,bP,bB,bQ,bR,bl,cm,cn,cq,cr,ct,bS])
       have tf:Has h h8:=Has.aU FU qh b4 o!
       have dJ:Has hh h8:=Has.aU di qh bb o!
       obtain ⟨h9,BV,dZ,vx,eZ,pQ⟩:=cj cT (aH.cells [] 37 false)
       have FV:Has h h9:=tf.trans pQ
       have g8:Has hh h9:=dJ.trans pQ
       have B5:Has h8 h9:=pQ
       obtain ⟨nG,oW,j0,wx,ku,ch⟩:=cj dZ (aH.cells [(AV.str worker),(AV.int .i64 ab),(AV.int .i64 aW),(AV.int .i64 (aW+ae)),(AV.int .i64 ((aW+ae)+(aA t ab ae)))] 37 false)
       have B6:Has h nG:=FV.trans ch
       have gC:Has hh nG:=g8.trans ch
       have rC:Has h8 nG:=B5.trans ch
       obtain ⟨Q0,rW,FW,nX,TF,TG,LA,kp⟩:=iV.S3 (tys:= #[25,25]) (l:=([]:List aO)) (m:=l_) (x:=bA) j0 cT rC o! (.inl ⟨.inr ⟨_,rfl,(Nat.le_refl _),(ch _ _ eZ)⟩,rfl⟩:iV h8 nG (AV.slice h8.nx 0 0 0 false) ([]:List aO)) ((nN.has hI).has gC).nH ((nN.has hI).has gC).first (wk ((nN.has hI).has gC) fun y hy=>aO.sc (((nN.has hI).has gC).NG y hy)) (by first | omega | (simp;omega)) rfl rfl k! k! (bytes:=48) k! (z0:=(AV.agg [(AV.str []),(AV.int .i64 0),(AV.int .i64 0),(AV.int .i64 0),(AV.int .i64 0)])) k! rfl (by decide)
       have NV:Has h rW:=B6.trans kp
       have l6:Has hh rW:=gC.trans kp
       have zd:Has h8 rW:=rC.trans kp
       have ze:∀y∈(([]:List aO)++l_),aD.ok rW y:=BI kp (yw (fun y hy=>by cases hy) ((nN.has hI).has gC).NG)
       have FX:bD rW Q0 (([]:List aO)++l_):=iV.rows LA (by first | omega | (simp;omega)) ze
       have LB:=FX.small
       obtain ⟨Iz,oR,FY,qd,Az,oZ,Q1,Q2⟩:=iV.app (tys:= #[25,25]) (l:=(([]:List aO)++l_)) (m:=[(⟨worker,ab,aW,(aW+ae),((aW+ae)+(aA t ab ae))⟩:aO)]) (x:=(AV.slice h9.nx 0 1 1 false)) nX cT zd o! LA rfl (sR (x:=(⟨worker,ab,aW,(aW+ae),((aW+ae)+(aA t ab ae))⟩:aO)) (kp _ _ ku)) (by simp [aD.c,aO.c,AV.scalar]) (by first | omega | (simp;omega)) rfl rfl k! k! (bytes:=48) k! (z0:=(AV.agg [(AV.str []),(AV.int .i64 0),(AV.int .i64 0),(AV.int .i64 0),(AV.int .i64 0)])) k! rfl (by decide)
       have Hl:Has h oR:=tf.trans oZ
       have j2:Has hh oR:=dJ.trans oZ
       have LC:Has h8 oR:=oZ
       have FZ:∀y∈((([]:List aO)++l_)++([(⟨worker,ab,aW,(aW+ae),((aW+ae)+(aA t ab ae))⟩:aO)])),aD.ok oR y:=xa (D:=aO) (yw ze (ok_one FD))
       have zf:bD oR Iz ((([]:List aO)++l_)++([(⟨worker,ab,aW,(aW+ae),((aW+ae)+(aA t ab ae))⟩:aO)])):=iV.rows Q1 (by first | omega | (simp;omega)) FZ
       have LD:=zf.small
       have TH:AV.same 20 (AV.agg [(AV.str worker),(AV.int .i64 ab),(AV.int .i64 aW),(AV.int .i64 (aW+ae)),(AV.int .i64 ((aW+ae)+(aA t ab ae)))]) (AV.agg [(AV.str worker),(AV.int .i64 ab),(AV.int .i64 aW),(AV.int .i64 (aW+ae)),(AV.int .i64 ((aW+ae)+(aA t ab ae)))])=true:=fq 18 (kz (fun n=>iI n _) (kz (fun n=>aQ n _ _) (kz (fun n=>aQ n _ _) (kz (fun n=>aQ n _ _) (kz (fun n=>aQ n _ _) Dz)))))
       have Q3:cJ (some (.slice 37)) (some bA)=some (AV.int .i64 ((l_.length:Nat):Int)):=(nN.has hI).len
       have ND:=vy (d:=d+1) t ((([]:List aO)++l_)++([(⟨worker,ab,aW,(aW+ae),((aW+ae)+(aA t ab ae))⟩:aO)])) ((l_.length:Nat):Int) (aD.mono j2 (aD.mono hI Ir)) zf (by first | omega | assumption | (simp only[List.length_set,List.length_replicate,List.length_append,List.length_cons,List.length_nil,List.nil_append]<;>omega) | (rw[List.length_take];omega)) (by first | omega | assumption | (simp only[List.length_set,List.length_replicate,List.length_append,List.length_cons,List.length_nil,List.nil_append]<;>omega) | (rw[List.length_take];omega)) qd
       have Zd:IntKind.i64.wrap (aW+1)=aW+1:=wrap_i64 o! o!
       have ev:=pk (d+3) nD ((x 0)::bA::(AV.str worker)::(AV.int .i64 ab)::(AV.int .i64 ae)::(x 5)::(AV.ptr oS 0)::rx x 7 5 ((AV.ptr uJ 0)::rx x 13 4 ((AV.int .i64 (aA t ab ae))::(x 18)::(AV.int .i64 aW)::rx x 20 104 []))) hh .normal oR (CN 2<|VV (nK 3 false false w1)<|CC<|VV (nK 3 false false w2)<|VV (gZ 3 false true .i64 ((aW+ae)+(aA t ab ae)) 100000)<|BB f0<|CN 5<|VV (nK 3 false false w4)<|CN 2<|VV (nK 3 false false w5)<|CC<|VV (nK 3 false false w6)<|CC<|NN QZ (fun i=>(AV.ptr i 0))<|SS Lz<|NN BV (fun i=>(AV.slice i 0 0 0 false))<|CC<|MM (aw 37 0 (AV.agg [(AV.str worker),(AV.int .i64 ab),(AV.int .i64 aW),(AV.int .i64 (aW+ae)),(AV.int .i64 ((aW+ae)+(aA t ab ae)))]) (pQ _ _ me) k!)<|NN oW (fun i=>(AV.slice i 0 1 1 false))<|PP (show da env nG #[25,25] (AV.slice h8.nx 0 0 0 false) bA=some (Q0,rW) from FW)<|PP (show da env rW #[25,25] Q0 (AV.slice h9.nx 0 1 1 false)=some (Iz,oR) from FY)<|CC<|HH (show ∃o,nG.get h8.nx=some o∧aH.same o (aH.cells [] 37 false)=true from ⟨_,(ch _ _ eZ),by simp [aH.same,dU,AV.same]⟩)<|HH (aw 37 0 (AV.agg [(AV.str worker),(AV.int .i64 ab),(AV.int .i64 aW),(AV.int .i64 (aW+ae)),(AV.int .i64 ((aW+ae)+(aA t ab ae)))]) (ch _ _ (pQ _ _ me)) k!)<|HH TH<|HH (aw 37 0 (AV.agg [(AV.str worker),(AV.int .i64 ab),(AV.int .i64 aW),(AV.int .i64 (aW+ae)),(AV.int .i64 ((aW+ae)+(aA t ab ae)))]) (kp _ _ (ch _ _ (pQ _ _ me))) k!)<|HH TH<|HH (show ∃o,nG.get h9.nx=some o∧aH.same o (aH.cells [(AV.str worker),(AV.int .i64 ab),(AV.int .i64 aW),(AV.int .i64 (aW+ae)),(AV.int .i64 ((aW+ae)+(aA t ab ae)))] 37 false)=true from ⟨_,ku,by simp [aH.same,dU,AV.same]⟩)<|HH (show ∃o,rW.get h9.nx=some o∧aH.same o (aH.cells [(AV.str worker),(AV.int .i64 ab),(AV.int .i64 aW),(AV.int .i64 (aW+ae)),(AV.int .i64 ((aW+ae)+(aA t ab ae)))] 37 false)=true from ⟨_,(kp _ _ ku),by simp [aH.same,dU,AV.same]⟩)<|HH (show nodup [h8.nx,h9.nx]=true from (by simp [nodup];omega))<|MM (aw 24 0 (AV.agg [t.ak,(AV.int .i64 t.rest),(AV.int .i64 t.day)]) (oZ _ _ (qh _ _ o! (zQ _ _ wX))) k!)<|CN 2<|VV Q3<|EE ND<|VV (dC 81 false true .u8 (cX t ((([]:List aO)++l_)++([(⟨worker,ab,aW,(aW+ae),((aW+ae)+(aA t ab ae))⟩:aO)])) ((l_.length:Nat):Int)) 0)<|BB f1<|CC<|VV (nK 3 false true Zd)<|CC<|ZZ) k!
       exact cy.round (by simp only[gT,f0,f1,cond_true,cond_false]) ev (⟨qd,j2,by omega⟩) (fun x=>((x 0)::bA::(AV.str worker)::(AV.int .i64 ab)::(AV.int .i64 ae)::(x 5)::(AV.ptr oS 0)::rx x 7 5 ((AV.ptr uJ 0)::rx x 13 4 ((AV.int .i64 (aA t ab ae))::(x 18)::(AV.int .i64 (aW+1))::rx x 20 104 [])))) k! (fun x=>mg bA worker ab ae t l_ oS uJ nN FD QW Ir QC WH WI WJ WK b4 WL WM QX QB (aW+1) o! (show (0≤(aW+1)∧(aW+1)≤100000) from by omega) x oR qd (aR.trans j2) (hI.trans j2) (oZ _ _ (qh _ _ o! (zQ _ _ wX))) (oZ _ _ (qh _ _ o! (zQ _ _ IB))))
   · have fH:=of_decide_eq_false f0
     have pX:=aR
     have w1:IntKind.i64.wrap (aW+ae)=aW+ae:=wrap_i64 o! o!
     have w2:IntKind.i64.wrap ((aW+ae)+(aA t ab ae))=(aW+ae)+(aA t ab ae):=wrap_i64 o! o!
     have ev:=pk (d+3) nD ((x 0)::bA::(AV.str worker)::(AV.int .i64 ab)::(AV.int .i64 ae)::(x 5)::(AV.ptr oS 0)::rx x 7 5 ((AV.ptr uJ 0)::rx x 13 4 ((AV.int .i64 (aA t ab ae))::(x 18)::(AV.int .i64 aW)::rx x 20 104 []))) hh (.exit 3) hh (CN 2<|VV (nK 3 false false w1)<|CC<|VV (nK 3 false false w2)<|VV (gZ 3 false true .i64 ((aW+ae)+(aA t ab ae)) 100000)<|BB f0<|ZZ) k!
     exact cy.out (by simp only[gT,f0,cond_true,cond_false]) ev (cG.refl bb) k!
def bC (t:aK) (l_:List aO) (worker:List UInt8) (ab:Int) (ae:Int) (ready:Int):aO×Int:=(bif (!decide (((aC t l_).2)=0)) then ((⟨[],0,0,0,0⟩:aO),((aC t l_).2)) else (match (jH t l_ (((aC t l_).1).length) 0) with | none=>(bif (!(dS worker)) then ((⟨[],0,0,0,0⟩:aO),5) else (bif (!(aF ab)) then ((⟨[],0,0,0,0⟩:aO),1) else (bif (!(aF ae)) then ((⟨[],0,0,0,0⟩:aO),1) else (bif (!(aF ready)) then ((⟨[],0,0,0,0⟩:aO),1) else (bif (decide (ae=0)) then ((⟨[],0,0,0,0⟩:aO),1) else (bif (decide ((aA t ab ae)<0)) then ((⟨[],0,0,0,0⟩:aO),7) else (bif (decide (0<((l_.length:Nat):Int))) then (match (gT worker ab ae t l_ (Int.toNat (100001 -(imax ready ((l_.g (l_.length - 1)).aP)))) (imax ready ((l_.g (l_.length - 1)).aP))) with | none=>((⟨[],0,0,0,0⟩:aO),9) | some LF=>(LF.1,LF.2)) else (match (gT worker ab ae t l_ (Int.toNat (100001 - ready)) ready) with | none=>((⟨[],0,0,0,0⟩:aO),9) | some LG=>(LG.1,LG.2))))))))) | some TI=>(TI.1,TI.2)))
theorem zg {d:Nat} {h:ar} {bA:AV} (t:aK) (l_:List aO) (worker:List UInt8) (ab:Int) (ae:Int) (ready:Int) (b8:aD.ok h t) (bE:bD h bA l_) (bf:worker.length<2^60) (b4:Tidy h):eD (d+4) (.fn 14) [(AV.agg [t.ak,(AV.int .i64 t.rest),(AV.int .i64 t.day)]),bA,(AV.str worker),(AV.int .i64 ab),(AV.int .i64 ae),(AV.int .i64 ready)] h= .ret (AV.tuple [(AV.agg [(AV.str (((bC t l_ worker ab ae ready).1).worker)),(AV.int .i64 (((bC t l_ worker ab ae ready).1).ab)),(AV.int .i64 (((bC t l_ worker ab ae ready).1).aP)),(AV.int .i64 (((bC t l_ worker ab ae ready).1).leave)),(AV.int .i64 (((bC t l_ worker ab ae ready).1).out))]),(AV.int .i64 ((bC t l_ worker ab ae ready).2))]) h:=by
 have pP:=bE.small
 rcases Bool.eq_false_or_eq_true (!decide (((aC t l_).2)=0)) with f0 | f0
 · have fH:=sS f0
   obtain ⟨h1,bm,aL,cu,aE,bh⟩:=cj b4 (aH.cells [t.ak,(AV.int .i64 t.rest),(AV.int .i64 t.day)] 24 false)
   have aG:Has h h1:=bh
   obtain ⟨h2,eX,dH,lj,cM,b5⟩:=cj aL (aH.cells [(AV.str []),(AV.int .i64 0),(AV.int .i64 0),(AV.int .i64 0),(AV.int .i64 0)] 37 false)
   have cB:Has h h2:=aG.trans b5
   obtain ⟨z3,h5,nE,bJ,rY,zh⟩:=dK (d:=d) t l_ (aD.mono cB b8) (bE.has cB) dH
   have eB:=bJ.y
   have lD:h2.nx≤h5.nx:=bJ.n
   have ck:Has h h5:=cB.trans bJ.a
   have rD:=rY.small
   obtain ⟨h7,iW,eA,oO,cc,cL⟩:=dW (t:=37) (n:=5) (i:=h1.nx) (L:=[(AV.str []),(AV.int .i64 0),(AV.int .i64 0),(AV.int .i64 0),(AV.int .i64 0)]) eB (bJ.a _ _ cM) k! rfl rfl (by simp only[AV.cells,List.all_cons,List.all_nil,Bool.and_true,Bool.and_self,bP,bB,bQ,bR,bl,cm,cn,cq,cr,ct,bS])
   have di:Has h h7:=Has.aU ck cL b4 o!
   have ev:=pk (d+3) dO ((AV.agg [t.ak,(AV.int .i64 t.rest),(AV.int .i64 t.day)])::bA::(AV.str worker)::(AV.int .i64 ab)::(AV.int .i64 ae)::(AV.int .i64 ready)::cz 118) h .ret h7 (NN bm (fun i=>(AV.ptr i 0))<|NN eX (fun i=>(AV.ptr i 0))<|CC<|MM (aw 24 0 (AV.agg [t.ak,(AV.int .i64 t.rest),(AV.int .i64 t.day)]) (b5 _ _ aE) k!)<|CC<|EE nE<|CN 6<|VV (cS 28 false true .i64 ((aC t l_).2) 0)<|BB f0<|CN 2<|SS iW<|CC<|ZZ) k!
   have e:bC t l_ worker ab ae ready=((⟨[],0,0,0,0⟩:aO),((aC t l_).2)):=by simp only[bC,f0,cond_true,cond_false]
   rw[e]
   exact az rfl (cK (a:=12) (r:=13) (t:=37) (i:=h1.nx) Tryz.func14 iL k! (.inr rfl) ev k! (dE cc k!)) di rfl
 · have fH:=sU f0
   obtain ⟨ZO,ZP,ZQ,ZR⟩:=FJ ab ae fH
   cases gQ:jH t l_ (((aC t l_).1).length) 0 with
   | none=>
     rcases Bool.eq_false_or_eq_true (!(dS worker)) with f2 | f2
     · obtain ⟨h1,bm,aL,cu,aE,bh⟩:=cj b4 (aH.cells [t.ak,(AV.int .i64 t.rest),(AV.int .i64 t.day)] 24 false)
       have aG:Has h h1:=bh
       obtain ⟨h2,eX,dH,lj,cM,b5⟩:=cj aL (aH.cells [(AV.str []),(AV.int .i64 0),(AV.int .i64 0),(AV.int .i64 0),(AV.int .i64 0)] 37 false)
       have cB:Has h h2:=aG.trans b5
       obtain ⟨z3,h5,nE,bJ,rY,zh⟩:=dK (d:=d) t l_ (aD.mono cB b8) (bE.has cB) dH
       have eB:=bJ.y
       have lD:h2.nx≤h5.nx:=bJ.n
       have ck:Has h h5:=cB.trans bJ.a
       have rD:=rY.small
       obtain ⟨mf,h8,gD,dr⟩:=cy.n gQ (eR (d:=d) (h:=h) (g_:=h5) bA worker ab ae ready z3 t l_ h.nx h1.nx (bE.has ck) bf (b8.has ck) rY (aD.mono ck b8) b4 o! o! o! (((aC t l_).1).length) 0 o! (fun k_=>(((AV.agg [t.ak,(AV.int .i64 t.rest),(AV.int .i64 t.day)])::bA::(AV.str worker)::(AV.int .i64 ab)::(AV.int .i64 ae)::(AV.int .i64 ready)::(AV.ptr h.nx 0)::AV.undef::AV.undef::AV.undef::AV.undef::AV.undef::(AV.ptr h1.nx 0)::(AV.int .i64 0)::z3::(AV.int .i64 ((aC t l_).2))::(AV.int .i64 0)::AV.undef::AV.undef::AV.undef::AV.undef::AV.undef::(AV.tuple [z3,(AV.int .i64 ((aC t l_).2))])::(AV.agg [t.ak,(AV.int .i64 t.rest),(AV.int .i64 t.day)])::bA::(AV.tuple [z3,(AV.int .i64 ((aC t l_).2))])::z3::(AV.int .i64 ((aC t l_).2))::(AV.int .i64 ((aC t l_).2))::(AV.bool (!decide (((aC t l_).2)=0)))::cz 94):List AV).getD k_ AV.undef) h5 eB ck (Has.refl _) (bJ.a _ _ (b5 _ _ aE)) (bJ.a _ _ cM))
       have cT:=dr.y
       have yP:h5.nx≤h8.nx:=dr.n
       have dJ:Has h h8:=ck.trans dr.a
       have kg:Has h5 h8:=dr.a
       have k9:=cU (d:=d+2) t ab ae (aD.mono dJ b8) cT
       have jC:=eV (d:=d+2) worker bf cT
       obtain ⟨XN,TJ,XO,XP,TL,Q4⟩:=dW (t:=37) (n:=5) (i:=h1.nx) (L:=[(AV.str []),(AV.int .i64 0),(AV.int .i64 0),(AV.int .i64 0),(AV.int .i64 0)]) cT (dr.a _ _ (bJ.a _ _ cM)) k! rfl rfl (by simp only[AV.cells,List.all_cons,List.all_nil,Bool.and_true,Bool.and_self,bP,bB,bQ,bR,bl,cm,cn,cq,cr,ct,bS])
       have TM:Has h XN:=Has.aU dJ Q4 b4 o!
       have ev:=pk (d+3) dO ((AV.agg [t.ak,(AV.int .i64 t.rest),(AV.int .i64 t.day)])::bA::(AV.str worker)::(AV.int .i64 ab)::(AV.int .i64 ae)::(AV.int .i64 ready)::cz 118) h .ret XN (NN bm (fun i=>(AV.ptr i 0))<|NN eX (fun i=>(AV.ptr i 0))<|CC<|MM (aw 24 0 (AV.agg [t.ak,(AV.int .i64 t.rest),(AV.int .i64 t.day)]) (b5 _ _ aE) k!)<|CC<|EE nE<|CN 6<|VV (cS 28 false true .i64 ((aC t l_).2) 0)<|BB f0<|CC<|LL gD<|MM (aw 24 0 (AV.agg [t.ak,(AV.int .i64 t.rest),(AV.int .i64 t.day)]) (dr.a _ _ (bJ.a _ _ (b5 _ _ aE))) k!)<|CN 2<|EE k9<|CN 2<|EE jC<|CN 2<|BB f2<|CC<|SS TJ<|CC<|ZZ) k!
       have e:bC t l_ worker ab ae ready=((⟨[],0,0,0,0⟩:aO),5):=by simp only[bC,f0,gQ,f2,cond_true,cond_false]
       rw[e]
       exact az rfl (cK (a:=12) (r:=13) (t:=37) (i:=h1.nx) Tryz.func14 iL k! (.inr rfl) ev k! (dE TL k!)) TM rfl
     · rcases Bool.eq_false_or_eq_true (!(aF ab)) with f3 | f3
       · obtain ⟨h1,bm,aL,cu,aE,bh⟩:=cj b4 (aH.cells [t.ak,(AV.int .i64 t.rest),(AV.int .i64 t.day)] 24 false)
         have aG:Has h h1:=bh
         obtain ⟨h2,eX,dH,lj,cM,b5⟩:=cj aL (aH.cells [(AV.str []),(AV.int .i64 0),(AV.int .i64 0),(AV.int .i64 0),(AV.int .i64 0)] 37 false)
         have cB:Has h h2:=aG.trans b5
         obtain ⟨z3,h5,nE,bJ,rY,zh⟩:=dK (d:=d) t l_ (aD.mono cB b8) (bE.has cB) dH
         have eB:=bJ.y
         have lD:h2.nx≤h5.nx:=bJ.n
         have ck:Has h h5:=cB.trans bJ.a
         have rD:=rY.small
         obtain ⟨mf,h8,gD,dr⟩:=cy.n gQ (eR (d:=d) (h:=h) (g_:=h5) bA worker ab ae ready z3 t l_ h.nx h1.nx (bE.has ck) bf (b8.has ck) rY (aD.mono ck b8) b4 o! o! o! (((aC t l_).1).length) 0 o! (fun k_=>(((AV.agg [t.ak,(AV.int .i64 t.rest),(AV.int .i64 t.day)])::bA::(AV.str worker)::(AV.int .i64 ab)::(AV.int .i64 ae)::(AV.int .i64 ready)::(AV.ptr h.nx 0)::AV.undef::AV.undef::AV.undef::AV.undef::AV.undef::(AV.ptr h1.nx 0)::(AV.int .i64 0)::z3::(AV.int .i64 ((aC t l_).2))::(AV.int .i64 0)::AV.undef::AV.undef::AV.undef::AV.undef::AV.undef::(AV.tuple [z3,(AV.int .i64 ((aC t l_).2))])::(AV.agg [t.ak,(AV.int .i64 t.rest),(AV.int .i64 t.day)])::bA::(AV.tuple [z3,(AV.int .i64 ((aC t l_).2))])::z3::(AV.int .i64 ((aC t l_).2))::(AV.int .i64 ((aC t l_).2))::(AV.bool (!decide (((aC t l_).2)=0)))::cz 94):List AV).getD k_ AV.undef) h5 eB ck (Has.refl _) (bJ.a _ _ (b5 _ _ aE)) (bJ.a _ _ cM))
         have cT:=dr.y
         have yP:h5.nx≤h8.nx:=dr.n
         have dJ:Has h h8:=ck.trans dr.a
         have kg:Has h5 h8:=dr.a
         have k9:=cU (d:=d+2) t ab ae (aD.mono dJ b8) cT
         have jC:=eV (d:=d+2) worker bf cT
         have nj:=a_ (d:=d+2) ab cT
         obtain ⟨oR,TN,qd,XQ,TO,Q5⟩:=dW (t:=37) (n:=5) (i:=h1.nx) (L:=[(AV.str []),(AV.int .i64 0),(AV.int .i64 0),(AV.int .i64 0),(AV.int .i64 0)]) cT (dr.a _ _ (bJ.a _ _ cM)) k! rfl rfl (by simp only[AV.cells,List.all_cons,List.all_nil,Bool.and_true,Bool.and_self,bP,bB,bQ,bR,bl,cm,cn,cq,cr,ct,bS])
         have j2:Has h oR:=Has.aU dJ Q5 b4 o!
         have ev:=pk (d+3) dO ((AV.agg [t.ak,(AV.int .i64 t.rest),(AV.int .i64 t.day)])::bA::(AV.str worker)::(AV.int .i64 ab)::(AV.int .i64 ae)::(AV.int .i64 ready)::cz 118) h .ret oR (NN bm (fun i=>(AV.ptr i 0))<|NN eX (fun i=>(AV.ptr i 0))<|CC<|MM (aw 24 0 (AV.agg [t.ak,(AV.int .i64 t.rest),(AV.int .i64 t.day)]) (b5 _ _ aE) k!)<|CC<|EE nE<|CN 6<|VV (cS 28 false true .i64 ((aC t l_).2) 0)<|BB f0<|CC<|LL gD<|MM (aw 24 0 (AV.agg [t.ak,(AV.int .i64 t.rest),(AV.int .i64 t.day)]) (dr.a _ _ (bJ.a _ _ (b5 _ _ aE))) k!)<|CN 2<|EE k9<|CN 2<|EE jC<|CN 2<|BB f2<|CC<|EE nj<|CN 2<|BB f3<|BB f3<|BB f3<|VV (aX (a:=some (AV.bool true)) (b:=some AV.undef) f3)<|CC<|TT<|TT<|TT<|CN 2<|TT<|TT<|CN 2<|TT<|CC<|SS TN<|CC<|ZZ) k!
         have e:bC t l_ worker ab ae ready=((⟨[],0,0,0,0⟩:aO),1):=by simp only[bC,f0,gQ,f2,f3,cond_true,cond_false]
         rw[e]
         exact az rfl (cK (a:=12) (r:=13) (t:=37) (i:=h1.nx) Tryz.func14 iL k! (.inr rfl) ev k! (dE TO k!)) j2 rfl
       · have WO:(aF ab)=true:=d!
         have WQ:=jt WO
         rcases Bool.eq_false_or_eq_true (!(aF ae)) with f4 | f4
         · obtain ⟨h1,bm,aL,cu,aE,bh⟩:=cj b4 (aH.cells [t.ak,(AV.int .i64 t.rest),(AV.int .i64 t.day)] 24 false)
           have aG:Has h h1:=bh
           obtain ⟨h2,eX,dH,lj,cM,b5⟩:=cj aL (aH.cells [(AV.str []),(AV.int .i64 0),(AV.int .i64 0),(AV.int .i64 0),(AV.int .i64 0)] 37 false)
           have cB:Has h h2:=aG.trans b5
           obtain ⟨z3,h5,nE,bJ,rY,zh⟩:=dK (d:=d) t l_ (aD.mono cB b8) (bE.has cB) dH
           have eB:=bJ.y
           have lD:h2.nx≤h5.nx:=bJ.n
           have ck:Has h h5:=cB.trans bJ.a
           have rD:=rY.small
           obtain ⟨mf,h8,gD,dr⟩:=cy.n gQ (eR (d:=d) (h:=h) (g_:=h5) bA worker ab ae ready z3 t l_ h.nx h1.nx (bE.has ck) bf (b8.has ck) rY (aD.mono ck b8) b4 o! o! o! (((aC t l_).1).length) 0 o! (fun k_=>(((AV.agg [t.ak,(AV.int .i64 t.rest),(AV.int .i64 t.day)])::bA::(AV.str worker)::(AV.int .i64 ab)::(AV.int .i64 ae)::(AV.int .i64 ready)::(AV.ptr h.nx 0)::AV.undef::AV.undef::AV.undef::AV.undef::AV.undef::(AV.ptr h1.nx 0)::(AV.int .i64 0)::z3::(AV.int .i64 ((aC t l_).2))::(AV.int .i64 0)::AV.undef::AV.undef::AV.undef::AV.undef::AV.undef::(AV.tuple [z3,(AV.int .i64 ((aC t l_).2))])::(AV.agg [t.ak,(AV.int .i64 t.rest),(AV.int .i64 t.day)])::bA::(AV.tuple [z3,(AV.int .i64 ((aC t l_).2))])::z3::(AV.int .i64 ((aC t l_).2))::(AV.int .i64 ((aC t l_).2))::(AV.bool (!decide (((aC t l_).2)=0)))::cz 94):List AV).getD k_ AV.undef) h5 eB ck (Has.refl _) (bJ.a _ _ (b5 _ _ aE)) (bJ.a _ _ cM))
           have cT:=dr.y
           have yP:h5.nx≤h8.nx:=dr.n
           have dJ:Has h h8:=ck.trans dr.a
           have kg:Has h5 h8:=dr.a
           have k9:=cU (d:=d+2) t ab ae (aD.mono dJ b8) cT
           have jC:=eV (d:=d+2) worker bf cT
           have nj:=a_ (d:=d+2) ab cT
           have ra:=a_ (d:=d+2) ae cT
           obtain ⟨n4,TP,lq,Te,G7,Q6⟩:=dW (t:=37) (n:=5) (i:=h1.nx) (L:=[(AV.str []),(AV.int .i64 0),(AV.int .i64 0),(AV.int .i64 0),(AV.int .i64 0)]) cT (dr.a _ _ (bJ.a _ _ cM)) k! rfl rfl (by simp only[AV.cells,List.all_cons,List.all_nil,Bool.and_true,Bool.and_self,bP,bB,bQ,bR,bl,cm,cn,cq,cr,ct,bS])
           have jb:Has h n4:=Has.aU dJ Q6 b4 o!
           have ev:=pk (d+3) dO ((AV.agg [t.ak,(AV.int .i64 t.rest),(AV.int .i64 t.day)])::bA::(AV.str worker)::(AV.int .i64 ab)::(AV.int .i64 ae)::(AV.int .i64 ready)::cz 118) h .ret n4 (NN bm (fun i=>(AV.ptr i 0))<|NN eX (fun i=>(AV.ptr i 0))<|CC<|MM (aw 24 0 (AV.agg [t.ak,(AV.int .i64 t.rest),(AV.int .i64 t.day)]) (b5 _ _ aE) k!)<|CC<|EE nE<|CN 6<|VV (cS 28 false true .i64 ((aC t l_).2) 0)<|BB f0<|CC<|LL gD<|MM (aw 24 0 (AV.agg [t.ak,(AV.int .i64 t.rest),(AV.int .i64 t.day)]) (dr.a _ _ (bJ.a _ _ (b5 _ _ aE))) k!)<|CN 2<|EE k9<|CN 2<|EE jC<|CN 2<|BB f2<|CC<|EE nj<|CN 2<|BB f3<|CC<|BB f3<|EE ra<|BB f3<|CC<|VV (aJ (a:=some (AV.bool true)) (b:=some (AV.bool (!(aF ae)))) f3)<|CC<|BB f4<|BB f4<|BB f4<|VV (aX (a:=some (AV.bool true)) (b:=some AV.undef) f4)<|CC<|TT<|TT<|CN 2<|TT<|CC<|SS TP<|CC<|ZZ) k!
           have e:bC t l_ worker ab ae ready=((⟨[],0,0,0,0⟩:aO),1):=by simp only[bC,f0,gQ,f2,f3,f4,cond_true,cond_false]
           rw[e]
           exact az rfl (cK (a:=12) (r:=13) (t:=37) (i:=h1.nx) Tryz.func14 iL k! (.inr rfl) ev k! (dE G7 k!)) jb rfl
         · have WR:(aF ae)=true:=d!
           have WS:=jt WR
           rcases Bool.eq_false_or_eq_true (!(aF ready)) with f5 | f5
           · obtain ⟨h1,bm,aL,cu,aE,bh⟩:=cj b4 (aH.cells [t.ak,(AV.int .i64 t.rest),(AV.int .i64 t.day)] 24 false)
             have aG:Has h h1:=bh
             obtain ⟨h2,eX,dH,lj,cM,b5⟩:=cj aL (aH.cells [(AV.str []),(AV.int .i64 0),(AV.int .i64 0),(AV.int .i64 0),(AV.int .i64 0)] 37 false)
             have cB:Has h h2:=aG.trans b5
             obtain ⟨z3,h5,nE,bJ,rY,zh⟩:=dK (d:=d) t l_ (aD.mono cB b8) (bE.has cB) dH
             have eB:=bJ.y
             have lD:h2.nx≤h5.nx:=bJ.n
             have ck:Has h h5:=cB.trans bJ.a
             have rD:=rY.small
             obtain ⟨mf,h8,gD,dr⟩:=cy.n gQ (eR (d:=d) (h:=h) (g_:=h5) bA worker ab ae ready z3 t l_ h.nx h1.nx (bE.has ck) bf (b8.has ck) rY (aD.mono ck b8) b4 o! o! o! (((aC t l_).1).length) 0 o! (fun k_=>(((AV.agg [t.ak,(AV.int .i64 t.rest),(AV.int .i64 t.day)])::bA::(AV.str worker)::(AV.int .i64 ab)::(AV.int .i64 ae)::(AV.int .i64 ready)::(AV.ptr h.nx 0)::AV.undef::AV.undef::AV.undef::AV.undef::AV.undef::(AV.ptr h1.nx 0)::(AV.int .i64 0)::z3::(AV.int .i64 ((aC t l_).2))::(AV.int .i64 0)::AV.undef::AV.undef::AV.undef::AV.undef::AV.undef::(AV.tuple [z3,(AV.int .i64 ((aC t l_).2))])::(AV.agg [t.ak,(AV.int .i64 t.rest),(AV.int .i64 t.day)])::bA::(AV.tuple [z3,(AV.int .i64 ((aC t l_).2))])::z3::(AV.int .i64 ((aC t l_).2))::(AV.int .i64 ((aC t l_).2))::(AV.bool (!decide (((aC t l_).2)=0)))::cz 94):List AV).getD k_ AV.undef) h5 eB ck (Has.refl _) (bJ.a _ _ (b5 _ _ aE)) (bJ.a _ _ cM))
             have cT:=dr.y
             have yP:h5.nx≤h8.nx:=dr.n
             have dJ:Has h h8:=ck.trans dr.a
             have kg:Has h5 h8:=dr.a
             have k9:=cU (d:=d+2) t ab ae (aD.mono dJ b8) cT
             have jC:=eV (d:=d+2) worker bf cT
             have nj:=a_ (d:=d+2) ab cT
             have ra:=a_ (d:=d+2) ae cT
             have wI:=a_ (d:=d+2) ready cT
             obtain ⟨OW,TQ,Hj,OX,D4,Q7⟩:=dW (t:=37) (n:=5) (i:=h1.nx) (L:=[(AV.str []),(AV.int .i64 0),(AV.int .i64 0),(AV.int .i64 0),(AV.int .i64 0)]) cT (dr.a _ _ (bJ.a _ _ cM)) k! rfl rfl (by simp only[AV.cells,List.all_cons,List.all_nil,Bool.and_true,Bool.and_self,bP,bB,bQ,bR,bl,cm,cn,cq,cr,ct,bS])
             have D5:Has h OW:=Has.aU dJ Q7 b4 o!
             have ev:=pk (d+3) dO ((AV.agg [t.ak,(AV.int .i64 t.rest),(AV.int .i64 t.day)])::bA::(AV.str worker)::(AV.int .i64 ab)::(AV.int .i64 ae)::(AV.int .i64 ready)::cz 118) h .ret OW (NN bm (fun i=>(AV.ptr i 0))<|NN eX (fun i=>(AV.ptr i 0))<|CC<|MM (aw 24 0 (AV.agg [t.ak,(AV.int .i64 t.rest),(AV.int .i64 t.day)]) (b5 _ _ aE) k!)<|CC<|EE nE<|CN 6<|VV (cS 28 false true .i64 ((aC t l_).2) 0)<|BB f0<|CC<|LL gD<|MM (aw 24 0 (AV.agg [t.ak,(AV.int .i64 t.rest),(AV.int .i64 t.day)]) (dr.a _ _ (bJ.a _ _ (b5 _ _ aE))) k!)<|CN 2<|EE k9<|CN 2<|EE jC<|CN 2<|BB f2<|CC<|EE nj<|CN 2<|BB f3<|CC<|BB f3<|EE ra<|BB f3<|CC<|VV (aJ (a:=some (AV.bool true)) (b:=some (AV.bool (!(aF ae)))) f3)<|CC<|BB f4<|CC<|BB f4<|EE wI<|BB f4<|CC<|VV (aJ (a:=some (AV.bool true)) (b:=some (AV.bool (!(aF ready)))) f4)<|CC<|BB f5<|BB f5<|VV (aX (a:=some (AV.bool true)) (b:=some AV.undef) f5)<|CC<|TT<|CC<|SS TQ<|CC<|ZZ) k!
             have e:bC t l_ worker ab ae ready=((⟨[],0,0,0,0⟩:aO),1):=by simp only[bC,f0,gQ,f2,f3,f4,f5,cond_true,cond_false]
             rw[e]
             exact az rfl (cK (a:=12) (r:=13) (t:=37) (i:=h1.nx) Tryz.func14 iL k! (.inr rfl) ev k! (dE D4 k!)) D5 rfl
           · have WT:(aF ready)=true:=d!
             have WU:=jt WT
             rcases Bool.eq_false_or_eq_true (decide (ae=0)) with f6 | f6
             · have BT:=of_decide_eq_true f6
               obtain ⟨h1,bm,aL,cu,aE,bh⟩:=cj b4 (aH.cells [t.ak,(AV.int .i64 t.rest),(AV.int .i64 t.day)] 24 false)
               have aG:Has h h1:=bh
               obtain ⟨h2,eX,dH,lj,cM,b5⟩:=cj aL (aH.cells [(AV.str []),(AV.int .i64 0),(AV.int .i64 0),(AV.int .i64 0),(AV.int .i64 0)] 37 false)
               have cB:Has h h2:=aG.trans b5
               obtain ⟨z3,h5,nE,bJ,rY,zh⟩:=dK (d:=d) t l_ (aD.mono cB b8) (bE.has cB) dH
               have eB:=bJ.y
               have lD:h2.nx≤h5.nx:=bJ.n
               have ck:Has h h5:=cB.trans bJ.a
               have rD:=rY.small
               obtain ⟨mf,h8,gD,dr⟩:=cy.n gQ (eR (d:=d) (h:=h) (g_:=h5) bA worker ab ae ready z3 t l_ h.nx h1.nx (bE.has ck) bf (b8.has ck) rY (aD.mono ck b8) b4 o! o! o! (((aC t l_).1).length) 0 o! (fun k_=>(((AV.agg [t.ak,(AV.int .i64 t.rest),(AV.int .i64 t.day)])::bA::(AV.str worker)::(AV.int .i64 ab)::(AV.int .i64 ae)::(AV.int .i64 ready)::(AV.ptr h.nx 0)::AV.undef::AV.undef::AV.undef::AV.undef::AV.undef::(AV.ptr h1.nx 0)::(AV.int .i64 0)::z3::(AV.int .i64 ((aC t l_).2))::(AV.int .i64 0)::AV.undef::AV.undef::AV.undef::AV.undef::AV.undef::(AV.tuple [z3,(AV.int .i64 ((aC t l_).2))])::(AV.agg [t.ak,(AV.int .i64 t.rest),(AV.int .i64 t.day)])::bA::(AV.tuple [z3,(AV.int .i64 ((aC t l_).2))])::z3::(AV.int .i64 ((aC t l_).2))::(AV.int .i64 ((aC t l_).2))::(AV.bool (!decide (((aC t l_).2)=0)))::cz 94):List AV).getD k_ AV.undef) h5 eB ck (Has.refl _) (bJ.a _ _ (b5 _ _ aE)) (bJ.a _ _ cM))
               have cT:=dr.y
               have yP:h5.nx≤h8.nx:=dr.n
               have dJ:Has h h8:=ck.trans dr.a
               have kg:Has h5 h8:=dr.a
               have k9:=cU (d:=d+2) t ab ae (aD.mono dJ b8) cT
               have jC:=eV (d:=d+2) worker bf cT
               have nj:=a_ (d:=d+2) ab cT
               have ra:=a_ (d:=d+2) ae cT
               have wI:=a_ (d:=d+2) ready cT
               obtain ⟨mJ,D6,iK,OY,D7,dM⟩:=dW (t:=37) (n:=5) (i:=h1.nx) (L:=[(AV.str []),(AV.int .i64 0),(AV.int .i64 0),(AV.int .i64 0),(AV.int .i64 0)]) cT (dr.a _ _ (bJ.a _ _ cM)) k! rfl rfl (by simp only[AV.cells,List.all_cons,List.all_nil,Bool.and_true,Bool.and_self,bP,bB,bQ,bR,bl,cm,cn,cq,cr,ct,bS])
               have j4:Has h mJ:=Has.aU dJ dM b4 o!
               have ev:=pk (d+3) dO ((AV.agg [t.ak,(AV.int .i64 t.rest),(AV.int .i64 t.day)])::bA::(AV.str worker)::(AV.int .i64 ab)::(AV.int .i64 ae)::(AV.int .i64 ready)::cz 118) h .ret mJ (NN bm (fun i=>(AV.ptr i 0))<|NN eX (fun i=>(AV.ptr i 0))<|CC<|MM (aw 24 0 (AV.agg [t.ak,(AV.int .i64 t.rest),(AV.int .i64 t.day)]) (b5 _ _ aE) k!)<|CC<|EE nE<|CN 6<|VV (cS 28 false true .i64 ((aC t l_).2) 0)<|BB f0<|CC<|LL gD<|MM (aw 24 0 (AV.agg [t.ak,(AV.int .i64 t.rest),(AV.int .i64 t.day)]) (dr.a _ _ (bJ.a _ _ (b5 _ _ aE))) k!)<|CN 2<|EE k9<|CN 2<|EE jC<|CN 2<|BB f2<|CC<|EE nj<|CN 2<|BB f3<|CC<|BB f3<|EE ra<|BB f3<|CC<|VV (aJ (a:=some (AV.bool true)) (b:=some (AV.bool (!(aF ae)))) f3)<|CC<|BB f4<|CC<|BB f4<|EE wI<|BB f4<|CC<|VV (aJ (a:=some (AV.bool true)) (b:=some (AV.bool (!(aF ready)))) f4)<|CC<|BB f5<|CC<|BB f5<|VV (dC 3 false true .i64 ae 0)<|VV (aJ (a:=some (AV.bool true)) (b:=some (AV.bool (decide (ae=0)))) f5)<|CC<|BB f6<|CC<|SS D6<|CC<|ZZ) k!
               have e:bC t l_ worker ab ae ready=((⟨[],0,0,0,0⟩:aO),1):=by simp only[bC,f0,gQ,f2,f3,f4,f5,f6,cond_true,cond_false]
               rw[e]
               exact az rfl (cK (a:=12) (r:=13) (t:=37) (i:=h1.nx) Tryz.func14 iL k! (.inr rfl) ev k! (dE D7 k!)) j4 rfl
             · have BT:=of_decide_eq_false f6
               rcases Bool.eq_false_or_eq_true (decide ((aA t ab ae)<0)) with f7 | f7
               · have Qz:=of_decide_eq_true f7
                 obtain ⟨h1,bm,aL,cu,aE,bh⟩:=cj b4 (aH.cells [t.ak,(AV.int .i64 t.rest),(AV.int .i64 t.day)] 24 false)
                 have aG:Has h h1:=bh
                 obtain ⟨h2,eX,dH,lj,cM,b5⟩:=cj aL (aH.cells [(AV.str []),(AV.int .i64 0),(AV.int .i64 0),(AV.int .i64 0),(AV.int .i64 0)] 37 false)
                 have cB:Has h h2:=aG.trans b5
                 obtain ⟨z3,h5,nE,bJ,rY,zh⟩:=dK (d:=d) t l_ (aD.mono cB b8) (bE.has cB) dH
                 have eB:=bJ.y
                 have lD:h2.nx≤h5.nx:=bJ.n
                 have ck:Has h h5:=cB.trans bJ.a
                 have rD:=rY.small
                 obtain ⟨mf,h8,gD,dr⟩:=cy.n gQ (eR (d:=d) (h:=h) (g_:=h5) bA worker ab ae ready z3 t l_ h.nx h1.nx (bE.has ck) bf (b8.has ck) rY (aD.mono ck b8) b4 o! o! o! (((aC t l_).1).length) 0 o! (fun k_=>(((AV.agg [t.ak,(AV.int .i64 t.rest),(AV.int .i64 t.day)])::bA::(AV.str worker)::(AV.int .i64 ab)::(AV.int .i64 ae)::(AV.int .i64 ready)::(AV.ptr h.nx 0)::AV.undef::AV.undef::AV.undef::AV.undef::AV.undef::(AV.ptr h1.nx 0)::(AV.int .i64 0)::z3::(AV.int .i64 ((aC t l_).2))::(AV.int .i64 0)::AV.undef::AV.undef::AV.undef::AV.undef::AV.undef::(AV.tuple [z3,(AV.int .i64 ((aC t l_).2))])::(AV.agg [t.ak,(AV.int .i64 t.rest),(AV.int .i64 t.day)])::bA::(AV.tuple [z3,(AV.int .i64 ((aC t l_).2))])::z3::(AV.int .i64 ((aC t l_).2))::(AV.int .i64 ((aC t l_).2))::(AV.bool (!decide (((aC t l_).2)=0)))::cz 94):List AV).getD k_ AV.undef) h5 eB ck (Has.refl _) (bJ.a _ _ (b5 _ _ aE)) (bJ.a _ _ cM))
                 have cT:=dr.y
                 have yP:h5.nx≤h8.nx:=dr.n
                 have dJ:Has h h8:=ck.trans dr.a
                 have kg:Has h5 h8:=dr.a
                 have k9:=cU (d:=d+2) t ab ae (aD.mono dJ b8) cT
                 have jC:=eV (d:=d+2) worker bf cT
                 have nj:=a_ (d:=d+2) ab cT
                 have ra:=a_ (d:=d+2) ae cT
                 have wI:=a_ (d:=d+2) ready cT
                 obtain ⟨XR,TR,XS,XT,TS,Q8⟩:=dW (t:=37) (n:=5) (i:=h1.nx) (L:=[(AV.str []),(AV.int .i64 0),(AV.int .i64 0),(AV.int .i64 0),(AV.int .i64 0)]) cT (dr.a _ _ (bJ.a _ _ cM)) k! rfl rfl (by simp only[AV.cells,List.all_cons,List.all_nil,Bool.and_true,Bool.and_self,bP,bB,bQ,bR,bl,cm,cn,cq,cr,ct,bS])
                 have TU:Has h XR:=Has.aU dJ Q8 b4 o!
                 have ev:=pk (d+3) dO ((AV.agg [t.ak,(AV.int .i64 t.rest),(AV.int .i64 t.day)])::bA::(AV.str worker)::(AV.int .i64 ab)::(AV.int .i64 ae)::(AV.int .i64 ready)::cz 118) h .ret XR (NN bm (fun i=>(AV.ptr i 0))<|NN eX (fun i=>(AV.ptr i 0))<|CC<|MM (aw 24 0 (AV.agg [t.ak,(AV.int .i64 t.rest),(AV.int .i64 t.day)]) (b5 _ _ aE) k!)<|CC<|EE nE<|CN 6<|VV (cS 28 false true .i64 ((aC t l_).2) 0)<|BB f0<|CC<|LL gD<|MM (aw 24 0 (AV.agg [t.ak,(AV.int .i64 t.rest),(AV.int .i64 t.day)]) (dr.a _ _ (bJ.a _ _ (b5 _ _ aE))) k!)<|CN 2<|EE k9<|CN 2<|EE jC<|CN 2<|BB f2<|CC<|EE nj<|CN 2<|BB f3<|CC<|BB f3<|EE ra<|BB f3<|CC<|VV (aJ (a:=some (AV.bool true)) (b:=some (AV.bool (!(aF ae)))) f3)<|CC<|BB f4<|CC<|BB f4<|EE wI<|BB f4<|CC<|VV (aJ (a:=some (AV.bool true)) (b:=some (AV.bool (!(aF ready)))) f4)<|CC<|BB f5<|CC<|BB f5<|VV (dC 3 false true .i64 ae 0)<|VV (aJ (a:=some (AV.bool true)) (b:=some (AV.bool (decide (ae=0)))) f5)<|CC<|BB f6<|CC<|VV (bT 3 false true .i64 (aA t ab ae) 0)<|CC<|BB f7<|CC<|SS TR<|CC<|ZZ) k!
                 have e:bC t l_ worker ab ae ready=((⟨[],0,0,0,0⟩:aO),7):=by simp only[bC,f0,gQ,f2,f3,f4,f5,f6,f7,cond_true,cond_false]
                 rw[e]
                 exact az rfl (cK (a:=12) (r:=13) (t:=37) (i:=h1.nx) Tryz.func14 iL k! (.inr rfl) ev k! (dE TS k!)) TU rfl
               · have Qz:=of_decide_eq_false f7
                 rcases Bool.eq_false_or_eq_true (decide (0<((l_.length:Nat):Int))) with f8 | f8
                 · have K0:=of_decide_eq_true f8
                   have mx:=K3 ready (l_.g (l_.length - 1)).aP
                   cases xe:gT worker ab ae t l_ (Int.toNat (100001 -(imax ready ((l_.g (l_.length - 1)).aP)))) (imax ready ((l_.g (l_.length - 1)).aP)) with
                   | none=>
                     obtain ⟨h1,bm,aL,cu,aE,bh⟩:=cj b4 (aH.cells [t.ak,(AV.int .i64 t.rest),(AV.int .i64 t.day)] 24 false)
                     have aG:Has h h1:=bh
                     obtain ⟨h2,eX,dH,lj,cM,b5⟩:=cj aL (aH.cells [(AV.str []),(AV.int .i64 0),(AV.int .i64 0),(AV.int .i64 0),(AV.int .i64 0)] 37 false)
                     have cB:Has h h2:=aG.trans b5
                     obtain ⟨z3,h5,nE,bJ,rY,zh⟩:=dK (d:=d) t l_ (aD.mono cB b8) (bE.has cB) dH
                     have eB:=bJ.y
                     have lD:h2.nx≤h5.nx:=bJ.n
                     have ck:Has h h5:=cB.trans bJ.a
                     have rD:=rY.small
                     obtain ⟨mf,h8,gD,dr⟩:=cy.n gQ (eR (d:=d) (h:=h) (g_:=h5) bA worker ab ae ready z3 t l_ h.nx h1.nx (bE.has ck) bf (b8.has ck) rY (aD.mono ck b8) b4 o! o! o! (((aC t l_).1).length) 0 o! (fun k_=>(((AV.agg [t.ak,(AV.int .i64 t.rest),(AV.int .i64 t.day)])::bA::(AV.str worker)::(AV.int .i64 ab)::(AV.int .i64 ae)::(AV.int .i64 ready)::(AV.ptr h.nx 0)::AV.undef::AV.undef::AV.undef::AV.undef::AV.undef::(AV.ptr h1.nx 0)::(AV.int .i64 0)::z3::(AV.int .i64 ((aC t l_).2))::(AV.int .i64 0)::AV.undef::AV.undef::AV.undef::AV.undef::AV.undef::(AV.tuple [z3,(AV.int .i64 ((aC t l_).2))])::(AV.agg [t.ak,(AV.int .i64 t.rest),(AV.int .i64 t.day)])::bA::(AV.tuple [z3,(AV.int .i64 ((aC t l_).2))])::z3::(AV.int .i64 ((aC t l_).2))::(AV.int .i64 ((aC t l_).2))::(AV.bool (!decide (((aC t l_).2)=0)))::cz 94):List AV).getD k_ AV.undef) h5 eB ck (Has.refl _) (bJ.a _ _ (b5 _ _ aE)) (bJ.a _ _ cM))
                     have cT:=dr.y
                     have yP:h5.nx≤h8.nx:=dr.n
                     have dJ:Has h h8:=ck.trans dr.a
                     have kg:Has h5 h8:=dr.a
                     have k9:=cU (d:=d+2) t ab ae (aD.mono dJ b8) cT
                     have jC:=eV (d:=d+2) worker bf cT
                     have nj:=a_ (d:=d+2) ab cT
                     have ra:=a_ (d:=d+2) ae cT
                     have wI:=a_ (d:=d+2) ready cT
                     have F0:cJ (some (.slice 37)) (some bA)=some (AV.int .i64 ((l_.length:Nat):Int)):=bE.len
                     have Q9:cJ (some (.slice 37)) (some bA)=some (AV.int .i64 ((l_.length:Nat):Int)):=bE.len
                     have WV:=BH 3 false true l_.length 1 o! o!
                     obtain ⟨NX,NY,Ec⟩:=bE.elem (i:=(l_.length - 1)) o!
                     have Q_:c_ env (some (.slice 37)) (some bA) (some (AV.int .i64 ((l_.length - 1:Nat):Int)))=some (AV.ptr NX NY):=Ec
                     have Q':bN env h8 3 (AV.ptr NX (NY+2))=some (AV.int .i64 ((l_.g (l_.length - 1)).aP)):=(bE.has dJ).part (t:=3) (j:=2) o! Ec k! rfl
                     obtain ⟨WW,D1,B7,AH⟩:=cy.n xe (mg (d:=d) (h:=h) (g_:=h8) bA worker ab ae t l_ h.nx h1.nx (bE.has dJ) bf (b8.has dJ) (aD.mono dJ b8) o! o! o! o! o! b4 o! o! o! (Int.toNat (100001 -(imax ready ((l_.g (l_.length - 1)).aP)))) (imax ready ((l_.g (l_.length - 1)).aP)) o! (show (0≤(imax ready ((l_.g (l_.length - 1)).aP))∧(imax ready ((l_.g (l_.length - 1)).aP))≤100000) from by omega) (fun k_=>(((mf 0)::bA::(AV.str worker)::(AV.int .i64 ab)::(AV.int .i64 ae)::(AV.int .i64 ready)::(AV.ptr h.nx 0)::rx mf 7 5 ((AV.ptr h1.nx 0)::(mf 13)::z3::(mf 15)::(mf 16)::(AV.int .i64 (aA t ab ae))::(AV.int .i64 (imax ready ((l_.g (l_.length - 1)).aP)))::(AV.int .i64 (imax ready ((l_.g (l_.length - 1)).aP)))::rx mf 20 24 ((AV.agg [t.ak,(AV.int .i64 t.rest),(AV.int .i64 t.day)])::(AV.int .i64 ab)::(AV.int .i64 ae)::(AV.int .i64 (aA t ab ae))::(AV.bool (!(dS worker)))::(AV.str worker)::(AV.bool (dS worker))::(AV.bool (!(dS worker)))::(mf 52)::(AV.bool (decide (ae=0)))::(AV.int .i64 ab)::(AV.bool (aF ab))::(AV.bool (!(aF ab)))::(AV.bool (!(aF ab)))::(AV.int .i64 ae)::(AV.bool (aF ae))::(AV.bool (!(aF ae)))::(AV.bool (!(aF ae)))::(AV.bool (!(aF ae)))::(AV.int .i64 ready)::(AV.bool (aF ready))::(AV.bool (!(aF ready)))::(AV.bool (!(aF ready)))::(AV.bool (!(aF ready)))::(AV.int .i64 ae)::(AV.bool (decide (ae=0)))::(AV.bool (decide (ae=0)))::(mf 71)::(AV.bool (decide ((aA t ab ae)<0)))::(AV.int .i64 (aA t ab ae))::(AV.bool (decide ((aA t ab ae)<0)))::(mf 75)::(AV.int .i64 ready)::bA::(AV.int .i64 ((l_.length:Nat):Int))::(AV.bool (decide (0<((l_.length:Nat):Int))))::(AV.int .i64 ready)::bA::bA::(AV.int .i64 ((l_.length:Nat):Int))::(AV.int .i64 ((l_.length - 1:Nat):Int))::(AV.ptr NX NY)::(AV.ptr NX (NY+2))::(AV.int .i64 ((l_.g (l_.length - 1)).aP))::(AV.int .i64 (imax ready ((l_.g (l_.length - 1)).aP)))::(AV.int .i64 (imax ready ((l_.g (l_.length - 1)).aP)))::rx mf 90 34 []))):List AV).getD k_ AV.undef) h8 cT dJ (Has.refl _) (dr.a _ _ (bJ.a _ _ (b5 _ _ aE))) (dr.a _ _ (bJ.a _ _ cM)))
                     have ss:=AH.y
                     have TV:h8.nx≤D1.nx:=AH.n
                     have uH:Has h D1:=dJ.trans AH.a
                     have TW:Has h5 D1:=kg.trans AH.a
                     have TX:Has h8 D1:=AH.a
                     obtain ⟨OZ,D',O0,O1,Ea,zc⟩:=dW (t:=37) (n:=5) (i:=h1.nx) (L:=[(AV.str []),(AV.int .i64 0),(AV.int .i64 0),(AV.int .i64 0),(AV.int .i64 0)]) ss (AH.a _ _ (dr.a _ _ (bJ.a _ _ cM))) k! rfl rfl (by simp only[AV.cells,List.all_cons,List.all_nil,Bool.and_true,Bool.and_self,bP,bB,bQ,bR,bl,cm,cn,cq,cr,ct,bS])
                     have Eb:Has h OZ:=Has.aU uH zc b4 o!
                     have ev:=pk (d+3) dO ((AV.agg [t.ak,(AV.int .i64 t.rest),(AV.int .i64 t.day)])::bA::(AV.str worker)::(AV.int .i64 ab)::(AV.int .i64 ae)::(AV.int .i64 ready)::cz 118) h .ret OZ (NN bm (fun i=>(AV.ptr i 0))<|NN eX (fun i=>(AV.ptr i 0))<|CC<|MM (aw 24 0 (AV.agg [t.ak,(AV.int .i64 t.rest),(AV.int .i64 t.day)]) (b5 _ _ aE) k!)<|CC<|EE nE<|CN 6<|VV (cS 28 false true .i64 ((aC t l_).2) 0)<|BB f0<|CC<|LL gD<|MM (aw 24 0 (AV.agg [t.ak,(AV.int .i64 t.rest),(AV.int .i64 t.day)]) (dr.a _ _ (bJ.a _ _ (b5 _ _ aE))) k!)<|CN 2<|EE k9<|CN 2<|EE jC<|CN 2<|BB f2<|CC<|EE nj<|CN 2<|BB f3<|CC<|BB f3<|EE ra<|BB f3<|CC<|VV (aJ (a:=some (AV.bool true)) (b:=some (AV.bool (!(aF ae)))) f3)<|CC<|BB f4<|CC<|BB f4<|EE wI<|BB f4<|CC<|VV (aJ (a:=some (AV.bool true)) (b:=some (AV.bool (!(aF ready)))) f4)<|CC<|BB f5<|CC<|BB f5<|VV (dC 3 false true .i64 ae 0)<|VV (aJ (a:=some (AV.bool true)) (b:=some (AV.bool (decide (ae=0)))) f5)<|CC<|BB f6<|CC<|VV (bT 3 false true .i64 (aA t ab ae) 0)<|CC<|BB f7<|CN 3<|VV F0<|VV (dA 3 false true .i64 ((l_.length:Nat):Int) 0)<|BB f8<|CN 3<|VV Q9<|VV WV<|VV Q_<|CC<|MM Q'<|CN 4<|LL B7<|CC<|SS D'<|CC<|ZZ) k!
                     have e:bC t l_ worker ab ae ready=((⟨[],0,0,0,0⟩:aO),9):=by simp only[bC,f0,gQ,f2,f3,f4,f5,f6,f7,f8,xe,cond_true,cond_false]
                     rw[e]
                     exact az rfl (cK (a:=12) (r:=13) (t:=37) (i:=h1.nx) Tryz.func14 iL k! (.inr rfl) ev k! (dE Ea k!)) Eb rfl
                   | some LF=>
                     obtain ⟨h1,bm,aL,cu,aE,bh⟩:=cj b4 (aH.cells [t.ak,(AV.int .i64 t.rest),(AV.int .i64 t.day)] 24 false)
                     have aG:Has h h1:=bh
                     obtain ⟨h2,eX,dH,lj,cM,b5⟩:=cj aL (aH.cells [(AV.str []),(AV.int .i64 0),(AV.int .i64 0),(AV.int .i64 0),(AV.int .i64 0)] 37 false)
                     have cB:Has h h2:=aG.trans b5
                     obtain ⟨z3,h5,nE,bJ,rY,zh⟩:=dK (d:=d) t l_ (aD.mono cB b8) (bE.has cB) dH
                     have eB:=bJ.y
                     have lD:h2.nx≤h5.nx:=bJ.n
                     have ck:Has h h5:=cB.trans bJ.a
                     have rD:=rY.small
                     obtain ⟨mf,h8,gD,dr⟩:=cy.n gQ (eR (d:=d) (h:=h) (g_:=h5) bA worker ab ae ready z3 t l_ h.nx h1.nx (bE.has ck) bf (b8.has ck) rY (aD.mono ck b8) b4 o! o! o! (((aC t l_).1).length) 0 o! (fun k_=>(((AV.agg [t.ak,(AV.int .i64 t.rest),(AV.int .i64 t.day)])::bA::(AV.str worker)::(AV.int .i64 ab)::(AV.int .i64 ae)::(AV.int .i64 ready)::(AV.ptr h.nx 0)::AV.undef::AV.undef::AV.undef::AV.undef::AV.undef::(AV.ptr h1.nx 0)::(AV.int .i64 0)::z3::(AV.int .i64 ((aC t l_).2))::(AV.int .i64 0)::AV.undef::AV.undef::AV.undef::AV.undef::AV.undef::(AV.tuple [z3,(AV.int .i64 ((aC t l_).2))])::(AV.agg [t.ak,(AV.int .i64 t.rest),(AV.int .i64 t.day)])::bA::(AV.tuple [z3,(AV.int .i64 ((aC t l_).2))])::z3::(AV.int .i64 ((aC t l_).2))::(AV.int .i64 ((aC t l_).2))::(AV.bool (!decide (((aC t l_).2)=0)))::cz 94):List AV).getD k_ AV.undef) h5 eB ck (Has.refl _) (bJ.a _ _ (b5 _ _ aE)) (bJ.a _ _ cM))
                     have cT:=dr.y
                     have yP:h5.nx≤h8.nx:=dr.n
                     have dJ:Has h h8:=ck.trans dr.a
                     have kg:Has h5 h8:=dr.a
                     have k9:=cU (d:=d+2) t ab ae (aD.mono dJ b8) cT
                     have jC:=eV (d:=d+2) worker bf cT
                     have nj:=a_ (d:=d+2) ab cT
                     have ra:=a_ (d:=d+2) ae cT
                     have wI:=a_ (d:=d+2) ready cT
                     have F0:cJ (some (.slice 37)) (some bA)=some (AV.int .i64 ((l_.length:Nat):Int)):=bE.len
                     have Q9:cJ (some (.slice 37)) (some bA)=some (AV.int .i64 ((l_.length:Nat):Int)):=bE.len
                     have WV:=BH 3 false true l_.length 1 o! o!
                     obtain ⟨NX,NY,Ec⟩:=bE.elem (i:=(l_.length - 1)) o!
                     have Q_:c_ env (some (.slice 37)) (some bA) (some (AV.int .i64 ((l_.length - 1:Nat):Int)))=some (AV.ptr NX NY):=Ec
                     have Q':bN env h8 3 (AV.ptr NX (NY+2))=some (AV.int .i64 ((l_.g (l_.length - 1)).aP)):=(bE.has dJ).part (t:=3) (j:=2) o! Ec k! rfl
                     obtain ⟨WW,D1,B7,ss,Ra,TV,Rb⟩:=cy.r xe (mg (d:=d) (h:=h) (g_:=h8) bA worker ab ae t l_ h.nx h1.nx (bE.has dJ) bf (b8.has dJ) (aD.mono dJ b8) o! o! o! o! o! b4 o! o! o! (Int.toNat (100001 -(imax ready ((l_.g (l_.length - 1)).aP)))) (imax ready ((l_.g (l_.length - 1)).aP)) o! (show (0≤(imax ready ((l_.g (l_.length - 1)).aP))∧(imax ready ((l_.g (l_.length - 1)).aP))≤100000) from by omega) (fun k_=>(((mf 0)::bA::(AV.str worker)::(AV.int .i64 ab)::(AV.int .i64 ae)::(AV.int .i64 ready)::(AV.ptr h.nx 0)::rx mf 7 5 ((AV.ptr h1.nx 0)::(mf 13)::z3::(mf 15)::(mf 16)::(AV.int .i64 (aA t ab ae))::(AV.int .i64 (imax ready ((l_.g (l_.length - 1)).aP)))::(AV.int .i64 (imax ready ((l_.g (l_.length - 1)).aP)))::rx mf 20 24 ((AV.agg [t.ak,(AV.int .i64 t.rest),(AV.int .i64 t.day)])::(AV.int .i64 ab)::(AV.int .i64 ae)::(AV.int .i64 (aA t ab ae))::(AV.bool (!(dS worker)))::(AV.str worker)::(AV.bool (dS worker))::(AV.bool (!(dS worker)))::(mf 52)::(AV.bool (decide (ae=0)))::(AV.int .i64 ab)::(AV.bool (aF ab))::(AV.bool (!(aF ab)))::(AV.bool (!(aF ab)))::(AV.int .i64 ae)::(AV.bool (aF ae))::(AV.bool (!(aF ae)))::(AV.bool (!(aF ae)))::(AV.bool (!(aF ae)))::(AV.int .i64 ready)::(AV.bool (aF ready))::(AV.bool (!(aF ready)))::(AV.bool (!(aF ready)))::(AV.bool (!(aF ready)))::(AV.int .i64 ae)::(AV.bool (decide (ae=0)))::(AV.bool (decide (ae=0)))::(mf 71)::(AV.bool (decide ((aA t ab ae)<0)))::(AV.int .i64 (aA t ab ae))::(AV.bool (decide ((aA t ab ae)<0)))::(mf 75)::(AV.int .i64 ready)::bA::(AV.int .i64 ((l_.length:Nat):Int))::(AV.bool (decide (0<((l_.length:Nat):Int))))::(AV.int .i64 ready)::bA::bA::(AV.int .i64 ((l_.length:Nat):Int))::(AV.int .i64 ((l_.length - 1:Nat):Int))::(AV.ptr NX NY)::(AV.ptr NX (NY+2))::(AV.int .i64 ((l_.g (l_.length - 1)).aP))::(AV.int .i64 (imax ready ((l_.g (l_.length - 1)).aP)))::(AV.int .i64 (imax ready ((l_.g (l_.length - 1)).aP)))::rx mf 90 34 []))):List AV).getD k_ AV.undef) h8 cT dJ (Has.refl _) (dr.a _ _ (bJ.a _ _ (b5 _ _ aE))) (dr.a _ _ (bJ.a _ _ cM)))
                     have uH:Has h D1:=Ra
                     have ev:=pk (d+3) dO ((AV.agg [t.ak,(AV.int .i64 t.rest),(AV.int .i64 t.day)])::bA::(AV.str worker)::(AV.int .i64 ab)::(AV.int .i64 ae)::(AV.int .i64 ready)::cz 118) h .ret D1 (NN bm (fun i=>(AV.ptr i 0))<|NN eX (fun i=>(AV.ptr i 0))<|CC<|MM (aw 24 0 (AV.agg [t.ak,(AV.int .i64 t.rest),(AV.int .i64 t.day)]) (b5 _ _ aE) k!)<|CC<|EE nE<|CN 6<|VV (cS 28 false true .i64 ((aC t l_).2) 0)<|BB f0<|CC<|LL gD<|MM (aw 24 0 (AV.agg [t.ak,(AV.int .i64 t.rest),(AV.int .i64 t.day)]) (dr.a _ _ (bJ.a _ _ (b5 _ _ aE))) k!)<|CN 2<|EE k9<|CN 2<|EE jC<|CN 2<|BB f2<|CC<|EE nj<|CN 2<|BB f3<|CC<|BB f3<|EE ra<|BB f3<|CC<|VV (aJ (a:=some (AV.bool true)) (b:=some (AV.bool (!(aF ae)))) f3)<|CC<|BB f4<|CC<|BB f4<|EE wI<|BB f4<|CC<|VV (aJ (a:=some (AV.bool true)) (b:=some (AV.bool (!(aF ready)))) f4)<|CC<|BB f5<|CC<|BB f5<|VV (dC 3 false true .i64 ae 0)<|VV (aJ (a:=some (AV.bool true)) (b:=some (AV.bool (decide (ae=0)))) f5)<|CC<|BB f6<|CC<|VV (bT 3 false true .i64 (aA t ab ae) 0)<|CC<|BB f7<|CN 3<|VV F0<|VV (dA 3 false true .i64 ((l_.length:Nat):Int) 0)<|BB f8<|CN 3<|VV Q9<|VV WV<|VV Q_<|CC<|MM Q'<|CN 4<|LL B7<|ZZ) k!
                     have e:bC t l_ worker ab ae ready=(LF.1,LF.2):=by simp only[bC,f0,gQ,f2,f3,f4,f5,f6,f7,f8,xe,cond_true,cond_false]
                     rw[e]
                     exact az rfl (cK (a:=12) (r:=13) (t:=37) (i:=h1.nx) Tryz.func14 iL k! (.inr rfl) ev k! (dE Rb k!)) uH rfl
                 · have K0:=of_decide_eq_false f8
                   cases xf:gT worker ab ae t l_ (Int.toNat (100001 - ready)) ready with
                   | none=>
                     obtain ⟨h1,bm,aL,cu,aE,bh⟩:=cj b4 (aH.cells [t.ak,(AV.int .i64 t.rest),(AV.int .i64 t.day)] 24 false)
                     have aG:Has h h1:=bh
                     obtain ⟨h2,eX,dH,lj,cM,b5⟩:=cj aL (aH.cells [(AV.str []),(AV.int .i64 0),(AV.int .i64 0),(AV.int .i64 0),(AV.int .i64 0)] 37 false)
                     have cB:Has h h2:=aG.trans b5
                     obtain ⟨z3,h5,nE,bJ,rY,zh⟩:=dK (d:=d) t l_ (aD.mono cB b8) (bE.has cB) dH
                     have eB:=bJ.y
                     have lD:h2.nx≤h5.nx:=bJ.n
                     have ck:Has h h5:=cB.trans bJ.a
                     have rD:=rY.small
                     obtain ⟨mf,h8,gD,dr⟩:=cy.n gQ (eR (d:=d) (h:=h) (g_:=h5) bA worker ab ae ready z3 t l_ h.nx h1.nx (bE.has ck) bf (b8.has ck) rY (aD.mono ck b8) b4 o! o! o! (((aC t l_).1).length) 0 o! (fun k_=>(((AV.agg [t.ak,(AV.int .i64 t.rest),(AV.int .i64 t.day)])::bA::(AV.str worker)::(AV.int .i64 ab)::(AV.int .i64 ae)::(AV.int .i64 ready)::(AV.ptr h.nx 0)::AV.undef::AV.undef::AV.undef::AV.undef::AV.undef::(AV.ptr h1.nx 0)::(AV.int .i64 0)::z3::(AV.int .i64 ((aC t l_).2))::(AV.int .i64 0)::AV.undef::AV.undef::AV.undef::AV.undef::AV.undef::(AV.tuple [z3,(AV.int .i64 ((aC t l_).2))])::(AV.agg [t.ak,(AV.int .i64 t.rest),(AV.int .i64 t.day)])::bA::(AV.tuple [z3,(AV.int .i64 ((aC t l_).2))])::z3::(AV.int .i64 ((aC t l_).2))::(AV.int .i64 ((aC t l_).2))::(AV.bool (!decide (((aC t l_).2)=0)))::cz 94):List AV).getD k_ AV.undef) h5 eB ck (Has.refl _) (bJ.a _ _ (b5 _ _ aE)) (bJ.a _ _ cM))
                     have cT:=dr.y
                     have yP:h5.nx≤h8.nx:=dr.n
                     have dJ:Has h h8:=ck.trans dr.a
                     have kg:Has h5 h8:=dr.a
                     have k9:=cU (d:=d+2) t ab ae (aD.mono dJ b8) cT
                     have jC:=eV (d:=d+2) worker bf cT
                     have nj:=a_ (d:=d+2) ab cT
                     have ra:=a_ (d:=d+2) ae cT
                     have wI:=a_ (d:=d+2) ready cT
                     have F0:cJ (some (.slice 37)) (some bA)=some (AV.int .i64 ((l_.length:Nat):Int)):=bE.len
                     obtain ⟨WX,Rc,B8,AI⟩:=cy.n xf (mg (d:=d) (h:=h) (g_:=h8) bA worker ab ae t l_ h.nx h1.nx (bE.has dJ) bf (b8.has dJ) (aD.mono dJ b8) o! o! o! o! o! b4 o! o! o! (Int.toNat (100001 - ready)) ready o! (show (0≤ready∧ready≤100000) from by omega) (fun k_=>(((mf 0)::bA::(AV.str worker)::(AV.int .i64 ab)::(AV.int .i64 ae)::(AV.int .i64 ready)::(AV.ptr h.nx 0)::rx mf 7 5 ((AV.ptr h1.nx 0)::(mf 13)::z3::(mf 15)::(mf 16)::(AV.int .i64 (aA t ab ae))::(AV.int .i64 ready)::(AV.int .i64 ready)::rx mf 20 24 ((AV.agg [t.ak,(AV.int .i64 t.rest),(AV.int .i64 t.day)])::(AV.int .i64 ab)::(AV.int .i64 ae)::(AV.int .i64 (aA t ab ae))::(AV.bool (!(dS worker)))::(AV.str worker)::(AV.bool (dS worker))::(AV.bool (!(dS worker)))::(mf 52)::(AV.bool (decide (ae=0)))::(AV.int .i64 ab)::(AV.bool (aF ab))::(AV.bool (!(aF ab)))::(AV.bool (!(aF ab)))::(AV.int .i64 ae)::(AV.bool (aF ae))::(AV.bool (!(aF ae)))::(AV.bool (!(aF ae)))::(AV.bool (!(aF ae)))::(AV.int .i64 ready)::(AV.bool (aF ready))::(AV.bool (!(aF ready)))::(AV.bool (!(aF ready)))::(AV.bool (!(aF ready)))::(AV.int .i64 ae)::(AV.bool (decide (ae=0)))::(AV.bool (decide (ae=0)))::(mf 71)::(AV.bool (decide ((aA t ab ae)<0)))::(AV.int .i64 (aA t ab ae))::(AV.bool (decide ((aA t ab ae)<0)))::(mf 75)::(AV.int .i64 ready)::bA::(AV.int .i64 ((l_.length:Nat):Int))::(AV.bool (decide (0<((l_.length:Nat):Int))))::rx mf 80 9 ((AV.int .i64 ready)::rx mf 90 34 [])))):List AV).getD k_ AV.undef) h8 cT dJ (Has.refl _) (dr.a _ _ (bJ.a _ _ (b5 _ _ aE))) (dr.a _ _ (bJ.a _ _ cM)))
                     have O2:=AI.y
                     have TY:h8.nx≤Rc.nx:=AI.n
                     have LH:Has h Rc:=dJ.trans AI.a
                     have TZ:Has h5 Rc:=kg.trans AI.a
                     have T0:Has h8 Rc:=AI.a
                     obtain ⟨p_,T1,mD,LI,zi,Rd⟩:=dW (t:=37) (n:=5) (i:=h1.nx) (L:=[(AV.str []),(AV.int .i64 0),(AV.int .i64 0),(AV.int .i64 0),(AV.int .i64 0)]) O2 (AI.a _ _ (dr.a _ _ (bJ.a _ _ cM))) k! rfl rfl (by simp only[AV.cells,List.all_cons,List.all_nil,Bool.and_true,Bool.and_self,bP,bB,bQ,bR,bl,cm,cn,cq,cr,ct,bS])
                     have rA:Has h p_:=Has.aU LH Rd b4 o!
                     have ev:=pk (d+3) dO ((AV.agg [t.ak,(AV.int .i64 t.rest),(AV.int .i64 t.day)])::bA::(AV.str worker)::(AV.int .i64 ab)::(AV.int .i64 ae)::(AV.int .i64 ready)::cz 118) h .ret p_ (NN bm (fun i=>(AV.ptr i 0))<|NN eX (fun i=>(AV.ptr i 0))<|CC<|MM (aw 24 0 (AV.agg [t.ak,(AV.int .i64 t.rest),(AV.int .i64 t.day)]) (b5 _ _ aE) k!)<|CC<|EE nE<|CN 6<|VV (cS 28 false true .i64 ((aC t l_).2) 0)<|BB f0<|CC<|LL gD<|MM (aw 24 0 (AV.agg [t.ak,(AV.int .i64 t.rest),(AV.int .i64 t.day)]) (dr.a _ _ (bJ.a _ _ (b5 _ _ aE))) k!)<|CN 2<|EE k9<|CN 2<|EE jC<|CN 2<|BB f2<|CC<|EE nj<|CN 2<|BB f3<|CC<|BB f3<|EE ra<|BB f3<|CC<|VV (aJ (a:=some (AV.bool true)) (b:=some (AV.bool (!(aF ae)))) f3)<|CC<|BB f4<|CC<|BB f4<|EE wI<|BB f4<|CC<|VV (aJ (a:=some (AV.bool true)) (b:=some (AV.bool (!(aF ready)))) f4)<|CC<|BB f5<|CC<|BB f5<|VV (dC 3 false true .i64 ae 0)<|VV (aJ (a:=some (AV.bool true)) (b:=some (AV.bool (decide (ae=0)))) f5)<|CC<|BB f6<|CC<|VV (bT 3 false true .i64 (aA t ab ae) 0)<|CC<|BB f7<|CN 3<|VV F0<|VV (dA 3 false true .i64 ((l_.length:Nat):Int) 0)<|BB f8<|CN 2<|LL B8<|CC<|SS T1<|CC<|ZZ) k!
                     have e:bC t l_ worker ab ae ready=((⟨[],0,0,0,0⟩:aO),9):=by simp only[bC,f0,gQ,f2,f3,f4,f5,f6,f7,f8,xf,cond_true,cond_false]
                     rw[e]
                     exact az rfl (cK (a:=12) (r:=13) (t:=37) (i:=h1.nx) Tryz.func14 iL k! (.inr rfl) ev k! (dE zi k!)) rA rfl
                   | some LG=>
                     obtain ⟨h1,bm,aL,cu,aE,bh⟩:=cj b4 (aH.cells [t.ak,(AV.int .i64 t.rest),(AV.int .i64 t.day)] 24 false)
                     have aG:Has h h1:=bh
                     obtain ⟨h2,eX,dH,lj,cM,b5⟩:=cj aL (aH.cells [(AV.str []),(AV.int .i64 0),(AV.int .i64 0),(AV.int .i64 0),(AV.int .i64 0)] 37 false)
                     have cB:Has h h2:=aG.trans b5
                     obtain ⟨z3,h5,nE,bJ,rY,zh⟩:=dK (d:=d) t l_ (aD.mono cB b8) (bE.has cB) dH
                     have eB:=bJ.y
                     have lD:h2.nx≤h5.nx:=bJ.n
                     have ck:Has h h5:=cB.trans bJ.a
                     have rD:=rY.small
                     obtain ⟨mf,h8,gD,dr⟩:=cy.n gQ (eR (d:=d) (h:=h) (g_:=h5) bA worker ab ae ready z3 t l_ h.nx h1.nx (bE.has ck) bf (b8.has ck) rY (aD.mono ck b8) b4 o! o! o! (((aC t l_).1).length) 0 o! (fun k_=>(((AV.agg [t.ak,(AV.int .i64 t.rest),(AV.int .i64 t.day)])::bA::(AV.str worker)::(AV.int .i64 ab)::(AV.int .i64 ae)::(AV.int .i64 ready)::(AV.ptr h.nx 0)::AV.undef::AV.undef::AV.undef::AV.undef::AV.undef::(AV.ptr h1.nx 0)::(AV.int .i64 0)::z3::(AV.int .i64 ((aC t l_).2))::(AV.int .i64 0)::AV.undef::AV.undef::AV.undef::AV.undef::AV.undef::(AV.tuple [z3,(AV.int .i64 ((aC t l_).2))])::(AV.agg [t.ak,(AV.int .i64 t.rest),(AV.int .i64 t.day)])::bA::(AV.tuple [z3,(AV.int .i64 ((aC t l_).2))])::z3::(AV.int .i64 ((aC t l_).2))::(AV.int .i64 ((aC t l_).2))::(AV.bool (!decide (((aC t l_).2)=0)))::cz 94):List AV).getD k_ AV.undef) h5 eB ck (Has.refl _) (bJ.a _ _ (b5 _ _ aE)) (bJ.a _ _ cM))
                     have cT:=dr.y
                     have yP:h5.nx≤h8.nx:=dr.n
                     have dJ:Has h h8:=ck.trans dr.a
                     have kg:Has h5 h8:=dr.a
                     have k9:=cU (d:=d+2) t ab ae (aD.mono dJ b8) cT
                     have jC:=eV (d:=d+2) worker bf cT
                     have nj:=a_ (d:=d+2) ab cT
                     have ra:=a_ (d:=d+2) ae cT
                     have wI:=a_ (d:=d+2) ready cT
                     have F0:cJ (some (.slice 37)) (some bA)=some (AV.int .i64 ((l_.length:Nat):Int)):=bE.len
                     obtain ⟨WX,Rc,B8,O2,Re,TY,Rf⟩:=cy.r xf (mg (d:=d) (h:=h) (g_:=h8) bA worker ab ae t l_ h.nx h1.nx (bE.has dJ) bf (b8.has dJ) (aD.mono dJ b8) o! o! o! o! o! b4 o! o! o! (Int.toNat (100001 - ready)) ready o! (show (0≤ready∧ready≤100000) from by omega) (fun k_=>(((mf 0)::bA::(AV.str worker)::(AV.int .i64 ab)::(AV.int .i64 ae)::(AV.int .i64 ready)::(AV.ptr h.nx 0)::rx mf 7 5 ((AV.ptr h1.nx 0)::(mf 13)::z3::(mf 15)::(mf 16)::(AV.int .i64 (aA t ab ae))::(AV.int .i64 ready)::(AV.int .i64 ready)::rx mf 20 24 ((AV.agg [t.ak,(AV.int .i64 t.rest),(AV.int .i64 t.day)])::(AV.int .i64 ab)::(AV.int .i64 ae)::(AV.int .i64 (aA t ab ae))::(AV.bool (!(dS worker)))::(AV.str worker)::(AV.bool (dS worker))::(AV.bool (!(dS worker)))::(mf 52)::(AV.bool (decide (ae=0)))::(AV.int .i64 ab)::(AV.bool (aF ab))::(AV.bool (!(aF ab)))::(AV.bool (!(aF ab)))::(AV.int .i64 ae)::(AV.bool (aF ae))::(AV.bool (!(aF ae)))::(AV.bool (!(aF ae)))::(AV.bool (!(aF ae)))::(AV.int .i64 ready)::(AV.bool (aF ready))::(AV.bool (!(aF ready)))::(AV.bool (!(aF ready)))::(AV.bool (!(aF ready)))::(AV.int .i64 ae)::(AV.bool (decide (ae=0)))::(AV.bool (decide (ae=0)))::(mf 71)::(AV.bool (decide ((aA t ab ae)<0)))::(AV.int .i64 (aA t ab ae))::(AV.bool (decide ((aA t ab ae)<0)))::(mf 75)::(AV.int .i64 ready)::bA::(AV.int .i64 ((l_.length:Nat):Int))::(AV.bool (decide (0<((l_.length:Nat):Int))))::rx mf 80 9 ((AV.int .i64 ready)::rx mf 90 34 [])))):List AV).getD k_ AV.undef) h8 cT dJ (Has.refl _) (dr.a _ _ (bJ.a _ _ (b5 _ _ aE))) (dr.a _ _ (bJ.a _ _ cM)))
                     have LH:Has h Rc:=Re
                     have ev:=pk (d+3) dO ((AV.agg [t.ak,(AV.int .i64 t.rest),(AV.int .i64 t.day)])::bA::(AV.str worker)::(AV.int .i64 ab)::(AV.int .i64 ae)::(AV.int .i64 ready)::cz 118) h .ret Rc (NN bm (fun i=>(AV.ptr i 0))<|NN eX (fun i=>(AV.ptr i 0))<|CC<|MM (aw 24 0 (AV.agg [t.ak,(AV.int .i64 t.rest),(AV.int .i64 t.day)]) (b5 _ _ aE) k!)<|CC<|EE nE<|CN 6<|VV (cS 28 false true .i64 ((aC t l_).2) 0)<|BB f0<|CC<|LL gD<|MM (aw 24 0 (AV.agg [t.ak,(AV.int .i64 t.rest),(AV.int .i64 t.day)]) (dr.a _ _ (bJ.a _ _ (b5 _ _ aE))) k!)<|CN 2<|EE k9<|CN 2<|EE jC<|CN 2<|BB f2<|CC<|EE nj<|CN 2<|BB f3<|CC<|BB f3<|EE ra<|BB f3<|CC<|VV (aJ (a:=some (AV.bool true)) (b:=some (AV.bool (!(aF ae)))) f3)<|CC<|BB f4<|CC<|BB f4<|EE wI<|BB f4<|CC<|VV (aJ (a:=some (AV.bool true)) (b:=some (AV.bool (!(aF ready)))) f4)<|CC<|BB f5<|CC<|BB f5<|VV (dC 3 false true .i64 ae 0)<|VV (aJ (a:=some (AV.bool true)) (b:=some (AV.bool (decide (ae=0)))) f5)<|CC<|BB f6<|CC<|VV (bT 3 false true .i64 (aA t ab ae) 0)<|CC<|BB f7<|CN 3<|VV F0<|VV (dA 3 false true .i64 ((l_.length:Nat):Int) 0)<|BB f8<|CN 2<|LL B8<|ZZ) k!
                     have e:bC t l_ worker ab ae ready=(LG.1,LG.2):=by simp only[bC,f0,gQ,f2,f3,f4,f5,f6,f7,f8,xf,cond_true,cond_false]
                     rw[e]
                     exact az rfl (cK (a:=12) (r:=13) (t:=37) (i:=h1.nx) Tryz.func14 iL k! (.inr rfl) ev k! (dE Rf k!)) LH rfl
   | some TI=>
     obtain ⟨h1,bm,aL,cu,aE,bh⟩:=cj b4 (aH.cells [t.ak,(AV.int .i64 t.rest),(AV.int .i64 t.day)] 24 false)
     have aG:Has h h1:=bh
     obtain ⟨h2,eX,dH,lj,cM,b5⟩:=cj aL (aH.cells [(AV.str []),(AV.int .i64 0),(AV.int .i64 0),(AV.int .i64 0),(AV.int .i64 0)] 37 false)
     have cB:Has h h2:=aG.trans b5
     obtain ⟨z3,h5,nE,bJ,rY,zh⟩:=dK (d:=d) t l_ (aD.mono cB b8) (bE.has cB) dH
     have eB:=bJ.y
     have lD:h2.nx≤h5.nx:=bJ.n
     have ck:Has h h5:=cB.trans bJ.a
     have rD:=rY.small
     obtain ⟨mf,h8,gD,cT,T2,yP,T3⟩:=cy.r gQ (eR (d:=d) (h:=h) (g_:=h5) bA worker ab ae ready z3 t l_ h.nx h1.nx (bE.has ck) bf (b8.has ck) rY (aD.mono ck b8) b4 o! o! o! (((aC t l_).1).length) 0 o! (fun k_=>(((AV.agg [t.ak,(AV.int .i64 t.rest),(AV.int .i64 t.day)])::bA::(AV.str worker)::(AV.int .i64 ab)::(AV.int .i64 ae)::(AV.int .i64 ready)::(AV.ptr h.nx 0)::AV.undef::AV.undef::AV.undef::AV.undef::AV.undef::(AV.ptr h1.nx 0)::(AV.int .i64 0)::z3::(AV.int .i64 ((aC t l_).2))::(AV.int .i64 0)::AV.undef::AV.undef::AV.undef::AV.undef::AV.undef::(AV.tuple [z3,(AV.int .i64 ((aC t l_).2))])::(AV.agg [t.ak,(AV.int .i64 t.rest),(AV.int .i64 t.day)])::bA::(AV.tuple [z3,(AV.int .i64 ((aC t l_).2))])::z3::(AV.int .i64 ((aC t l_).2))::(AV.int .i64 ((aC t l_).2))::(AV.bool (!decide (((aC t l_).2)=0)))::cz 94):List AV).getD k_ AV.undef) h5 eB ck (Has.refl _) (bJ.a _ _ (b5 _ _ aE)) (bJ.a _ _ cM))
     have dJ:Has h h8:=T2
     have ev:=pk (d+3) dO ((AV.agg [t.ak,(AV.int .i64 t.rest),(AV.int .i64 t.day)])::bA::(AV.str worker)::(AV.int .i64 ab)::(AV.int .i64 ae)::(AV.int .i64 ready)::cz 118) h .ret h8 (NN bm (fun i=>(AV.ptr i 0))<|NN eX (fun i=>(AV.ptr i 0))<|CC<|MM (aw 24 0 (AV.agg [t.ak,(AV.int .i64 t.rest),(AV.int .i64 t.day)]) (b5 _ _ aE) k!)<|CC<|EE nE<|CN 6<|VV (cS 28 false true .i64 ((aC t l_).2) 0)<|BB f0<|CC<|LL gD<|ZZ) k!
     have e:bC t l_ worker ab ae ready=(TI.1,TI.2):=by simp only[bC,f0,gQ,cond_true,cond_false]
     rw[e]
     exact az rfl (cK (a:=12) (r:=13) (t:=37) (i:=h1.nx) Tryz.func14 iL k! (.inr rfl) ev k! (dE T3 k!)) dJ rfl
end Go.Proofs.bt
