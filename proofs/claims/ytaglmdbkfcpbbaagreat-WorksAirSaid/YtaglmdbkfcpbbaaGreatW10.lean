import Derived.Test.YtaglmdbkfcpbbaaGreatW0
import Derived.Test.YtaglmdbkfcpbbaaGreatW9
import Derived.Test.YtaglmdbkfcpbbaaGreatW5
import Derived.Test.YtaglmdbkfcpbbaaGreatW3
import Derived.Test.YtaglmdbkfcpbbaaGreatW1
namespace Go.Proofs.bt
open Go.Proofs Ab
set_option maxRecDepth 100000
set_option maxHeartbeats 4000000
set_option linter.unusedVariables false
set_option linter.unusedSimpArgs false
noncomputable def jw:Code:=(Tryz.f13.body).getD .skip
theorem oV:Tryz.f13.body=some jw:=by kernel_rfl
def bL (t:aK) (l_:List aO) (worker:List UInt8) (ab:Int) (ae:Int) (ready:Int):aO×Int:=(bif (!decide ((bX t l_ worker ab ae ready)=0)) then ((⟨[],0,0,0,0⟩:aO),(bX t l_ worker ab ae ready)) else (bif (!((ax t ab ae).2)) then ((⟨[],0,0,0,0⟩:aO),7) else (bif (decide (0<((l_.length:Nat):Int))) then (bif (bW ((aN (IntKind.i64.wrap ((imax ready ((l_.g (l_.length - 1)).aP))+(bp 100001 (fun y=>br y t (aM l_ worker) (imax ready ((l_.g (l_.length - 1)).aP)) worker ab ae ((ax t ab ae).1))))) worker ab ae ((ax t ab ae).1)).out)) then ((aN (IntKind.i64.wrap ((imax ready ((l_.g (l_.length - 1)).aP))+(bp 100001 (fun y=>br y t (aM l_ worker) (imax ready ((l_.g (l_.length - 1)).aP)) worker ab ae ((ax t ab ae).1))))) worker ab ae ((ax t ab ae).1)),0) else ((⟨[],0,0,0,0⟩:aO),9)) else (bif (bW ((aN (IntKind.i64.wrap (ready+(bp 100001 (fun y=>br y t (aM l_ worker) ready worker ab ae ((ax t ab ae).1))))) worker ab ae ((ax t ab ae).1)).out)) then ((aN (IntKind.i64.wrap (ready+(bp 100001 (fun y=>br y t (aM l_ worker) ready worker ab ae ((ax t ab ae).1))))) worker ab ae ((ax t ab ae).1)),0) else ((⟨[],0,0,0,0⟩:aO),9)))))
theorem yY {d:Nat} {h:ar} {bA:AV} (t:aK) (l_:List aO) (worker:List UInt8) (ab:Int) (ae:Int) (ready:Int) (b8:aD.ok h t) (bE:bD h bA l_) (bf:worker.length<2^60) (b4:Tidy h):eD (d+13) (.fn 13) [(AV.agg [t.ak,(AV.int .i64 t.rest),(AV.int .i64 t.day)]),bA,(AV.str worker),(AV.int .i64 ab),(AV.int .i64 ae),(AV.int .i64 ready)] h= .ret (AV.tuple [(AV.agg [(AV.str (((bL t l_ worker ab ae ready).1).worker)),(AV.int .i64 (((bL t l_ worker ab ae ready).1).ab)),(AV.int .i64 (((bL t l_ worker ab ae ready).1).aP)),(AV.int .i64 (((bL t l_ worker ab ae ready).1).leave)),(AV.int .i64 (((bL t l_ worker ab ae ready).1).out))]),(AV.int .i64 ((bL t l_ worker ab ae ready).2))]) h:=by
 have pP:=bE.small
 rcases Bool.eq_false_or_eq_true (!decide ((bX t l_ worker ab ae ready)=0)) with f0 | f0
 · have fH:=sS f0
   obtain ⟨h1,bm,aL,cu,aE,bh⟩:=cj b4 (aH.cells [t.ak,(AV.int .i64 t.rest),(AV.int .i64 t.day)] 24 false)
   have aG:Has h h1:=bh
   obtain ⟨h2,eX,dH,lj,cM,b5⟩:=cj aL (aH.cells [(AV.str worker)] 9 false)
   have cB:Has h h2:=aG.trans b5
   obtain ⟨h3,pL,kA,BK,jY,eH⟩:=cj dH (aH.cells [(AV.int .i64 ab)] 3 false)
   have iA:Has h h3:=cB.trans eH
   obtain ⟨h4,re,eY,yA,jl,dx⟩:=cj kA (aH.cells [(AV.int .i64 ae)] 3 false)
   have gN:Has h h4:=iA.trans dx
   obtain ⟨h5,yZ,eB,La,mz,dj⟩:=cj eY (aH.cells [(AV.int .i64 ready)] 3 false)
   have ck:Has h h5:=gN.trans dj
   obtain ⟨h6,gO,eQ,nL,gP,bI⟩:=cj eB (aH.cells [(AV.str []),(AV.int .i64 0),(AV.int .i64 0),(AV.int .i64 0),(AV.int .i64 0)] 37 false)
   have ek:Has h h6:=ck.trans bI
   have k7:=iQ (d:=d+1) t l_ worker ab ae ready (aD.mono ek b8) (bE.has ek) bf eQ
   obtain ⟨h9,rn,dZ,vx,eZ,iJ⟩:=dW (t:=37) (n:=5) (i:=h5.nx) (L:=[(AV.str []),(AV.int .i64 0),(AV.int .i64 0),(AV.int .i64 0),(AV.int .i64 0)]) eQ gP k! rfl rfl (by simp only[AV.cells,List.all_cons,List.all_nil,Bool.and_true,Bool.and_self,bP,bB,bQ,bR,bl,cm,cn,cq,cr,ct,bS])
   have g8:Has h h9:=Has.aU ek iJ b4 o!
   have ev:=pk (d+12) jw ((AV.agg [t.ak,(AV.int .i64 t.rest),(AV.int .i64 t.day)])::bA::(AV.str worker)::(AV.int .i64 ab)::(AV.int .i64 ae)::(AV.int .i64 ready)::cz 64) h .ret h9 (NN bm (fun i=>(AV.ptr i 0))<|NN eX (fun i=>(AV.ptr i 0))<|NN pL (fun i=>(AV.ptr i 0))<|NN re (fun i=>(AV.ptr i 0))<|NN yZ (fun i=>(AV.ptr i 0))<|NN gO (fun i=>(AV.ptr i 0))<|CC<|MM (aw 24 0 (AV.agg [t.ak,(AV.int .i64 t.rest),(AV.int .i64 t.day)]) (bI _ _ (dj _ _ (dx _ _ (eH _ _ (b5 _ _ aE))))) k!)<|CC<|MM (aw 9 0 (AV.str worker) (bI _ _ (dj _ _ (dx _ _ (eH _ _ cM)))) k!)<|MM (aw 3 0 (AV.int .i64 ab) (bI _ _ (dj _ _ (dx _ _ jY))) k!)<|MM (aw 3 0 (AV.int .i64 ae) (bI _ _ (dj _ _ jl)) k!)<|MM (aw 3 0 (AV.int .i64 ready) (bI _ _ mz) k!)<|EE k7<|CN 2<|VV (cS 28 false true .i64 (bX t l_ worker ab ae ready) 0)<|BB f0<|CN 2<|SS rn<|CC<|ZZ) k!
   have e:bL t l_ worker ab ae ready=((⟨[],0,0,0,0⟩:aO),(bX t l_ worker ab ae ready)):=by simp only[bL,f0,cond_true,cond_false]
   rw[e]
   exact az rfl (cK (a:=12) (r:=13) (t:=37) (i:=h5.nx) Tryz.func13 oV k! (.inr rfl) ev k! (dE eZ k!)) g8 rfl
 · have fH:=sU f0
   have UM:=wQ fH
   rcases Bool.eq_false_or_eq_true (!((ax t ab ae).2)) with f1 | f1
   · obtain ⟨h1,bm,aL,cu,aE,bh⟩:=cj b4 (aH.cells [t.ak,(AV.int .i64 t.rest),(AV.int .i64 t.day)] 24 false)
     have aG:Has h h1:=bh
     obtain ⟨h2,eX,dH,lj,cM,b5⟩:=cj aL (aH.cells [(AV.str worker)] 9 false)
     have cB:Has h h2:=aG.trans b5
     obtain ⟨h3,pL,kA,BK,jY,eH⟩:=cj dH (aH.cells [(AV.int .i64 ab)] 3 false)
     have iA:Has h h3:=cB.trans eH
     obtain ⟨h4,re,eY,yA,jl,dx⟩:=cj kA (aH.cells [(AV.int .i64 ae)] 3 false)
     have gN:Has h h4:=iA.trans dx
     obtain ⟨h5,yZ,eB,La,mz,dj⟩:=cj eY (aH.cells [(AV.int .i64 ready)] 3 false)
     have ck:Has h h5:=gN.trans dj
     obtain ⟨h6,gO,eQ,nL,gP,bI⟩:=cj eB (aH.cells [(AV.str []),(AV.int .i64 0),(AV.int .i64 0),(AV.int .i64 0),(AV.int .i64 0)] 37 false)
     have ek:Has h h6:=ck.trans bI
     have k7:=iQ (d:=d+1) t l_ worker ab ae ready (aD.mono ek b8) (bE.has ek) bf eQ
     have k9:=jk (d:=d+9) t ab ae (aD.mono ek b8) eQ
     obtain ⟨nG,oW,j0,wx,ku,ch⟩:=cj eQ (aH.cells [(AV.int .i64 0),(AV.int .i64 0),(AV.int .i64 0)] 67 false)
     have gC:Has h nG:=ek.trans ch
     obtain ⟨rW,rf,nX,DF,nY,b9⟩:=dW (t:=67) (n:=3) (i:=h6.nx) (L:=[(AV.int .i64 (((ax t ab ae).1).ab)),(AV.int .i64 (((ax t ab ae).1).ae)),(AV.int .i64 (((ax t ab ae).1).out))]) j0 ku k! rfl rfl (by simp only[AV.cells,List.all_cons,List.all_nil,Bool.and_true,Bool.and_self,bP,bB,bQ,bR,bl,cm,cn,cq,cr,ct,bS])
     have l6:Has h rW:=Has.aU gC b9 b4 o!
     obtain ⟨L7,Tr,KW,XM,Ts,QM⟩:=dW (t:=37) (n:=5) (i:=h5.nx) (L:=[(AV.str []),(AV.int .i64 0),(AV.int .i64 0),(AV.int .i64 0),(AV.int .i64 0)]) nX (b9 _ _ o! (ch _ _ gP)) k! rfl rfl (by simp only[AV.cells,List.all_cons,List.all_nil,Bool.and_true,Bool.and_self,bP,bB,bQ,bR,bl,cm,cn,cq,cr,ct,bS])
     have G6:Has h L7:=Has.aU l6 QM b4 o!
     have ev:=pk (d+12) jw ((AV.agg [t.ak,(AV.int .i64 t.rest),(AV.int .i64 t.day)])::bA::(AV.str worker)::(AV.int .i64 ab)::(AV.int .i64 ae)::(AV.int .i64 ready)::cz 64) h .ret L7 (NN bm (fun i=>(AV.ptr i 0))<|NN eX (fun i=>(AV.ptr i 0))<|NN pL (fun i=>(AV.ptr i 0))<|NN re (fun i=>(AV.ptr i 0))<|NN yZ (fun i=>(AV.ptr i 0))<|NN gO (fun i=>(AV.ptr i 0))<|CC<|MM (aw 24 0 (AV.agg [t.ak,(AV.int .i64 t.rest),(AV.int .i64 t.day)]) (bI _ _ (dj _ _ (dx _ _ (eH _ _ (b5 _ _ aE))))) k!)<|CC<|MM (aw 9 0 (AV.str worker) (bI _ _ (dj _ _ (dx _ _ (eH _ _ cM)))) k!)<|MM (aw 3 0 (AV.int .i64 ab) (bI _ _ (dj _ _ (dx _ _ jY))) k!)<|MM (aw 3 0 (AV.int .i64 ae) (bI _ _ (dj _ _ jl)) k!)<|MM (aw 3 0 (AV.int .i64 ready) (bI _ _ mz) k!)<|EE k7<|CN 2<|VV (cS 28 false true .i64 (bX t l_ worker ab ae ready) 0)<|BB f0<|MM (aw 24 0 (AV.agg [t.ak,(AV.int .i64 t.rest),(AV.int .i64 t.day)]) (bI _ _ (dj _ _ (dx _ _ (eH _ _ (b5 _ _ aE))))) k!)<|MM (aw 3 0 (AV.int .i64 ab) (bI _ _ (dj _ _ (dx _ _ jY))) k!)<|MM (aw 3 0 (AV.int .i64 ae) (bI _ _ (dj _ _ jl)) k!)<|EE k9<|CN 3<|NN oW (fun i=>(AV.ptr i 0))<|SS rf<|CN 3<|BB f1<|CC<|SS Tr<|CC<|ZZ) k!
     have e:bL t l_ worker ab ae ready=((⟨[],0,0,0,0⟩:aO),7):=by simp only[bL,f0,f1,cond_true,cond_false]
     rw[e]
     exact az rfl (cK (a:=12) (r:=13) (t:=37) (i:=h5.nx) Tryz.func13 oV k! (.inr rfl) ev k! (dE Ts k!)) G6 rfl
   · rcases Bool.eq_false_or_eq_true (decide (0<((l_.length:Nat):Int))) with f2 | f2
     · have np:=of_decide_eq_true f2
       rcases Bool.eq_false_or_eq_true (bW ((aN (IntKind.i64.wrap ((imax ready ((l_.g (l_.length - 1)).aP))+(bp 100001 (fun y=>br y t (aM l_ worker) (imax ready ((l_.g (l_.length - 1)).aP)) worker ab ae ((ax t ab ae).1))))) worker ab ae ((ax t ab ae).1)).out)) with f3 | f3
       · obtain ⟨h1,bm,aL,cu,aE,bh⟩:=cj b4 (aH.cells [t.ak,(AV.int .i64 t.rest),(AV.int .i64 t.day)] 24 false)
         have aG:Has h h1:=bh
         obtain ⟨h2,eX,dH,lj,cM,b5⟩:=cj aL (aH.cells [(AV.str worker)] 9 false)
         have cB:Has h h2:=aG.trans b5
         obtain ⟨h3,pL,kA,BK,jY,eH⟩:=cj dH (aH.cells [(AV.int .i64 ab)] 3 false)
         have iA:Has h h3:=cB.trans eH
         obtain ⟨h4,re,eY,yA,jl,dx⟩:=cj kA (aH.cells [(AV.int .i64 ae)] 3 false)
         have gN:Has h h4:=iA.trans dx
         obtain ⟨h5,yZ,eB,La,mz,dj⟩:=cj eY (aH.cells [(AV.int .i64 ready)] 3 false)
         have ck:Has h h5:=gN.trans dj
         obtain ⟨h6,gO,eQ,nL,gP,bI⟩:=cj eB (aH.cells [(AV.str []),(AV.int .i64 0),(AV.int .i64 0),(AV.int .i64 0),(AV.int .i64 0)] 37 false)
         have ek:Has h h6:=ck.trans bI
         have k7:=iQ (d:=d+1) t l_ worker ab ae ready (aD.mono ek b8) (bE.has ek) bf eQ
         have k9:=jk (d:=d+9) t ab ae (aD.mono ek b8) eQ
         obtain ⟨nG,oW,j0,wx,ku,ch⟩:=cj eQ (aH.cells [(AV.int .i64 0),(AV.int .i64 0),(AV.int .i64 0)] 67 false)
         have gC:Has h nG:=ek.trans ch
         obtain ⟨rW,rf,nX,DF,nY,b9⟩:=dW (t:=67) (n:=3) (i:=h6.nx) (L:=[(AV.int .i64 (((ax t ab ae).1).ab)),(AV.int .i64 (((ax t ab ae).1).ae)),(AV.int .i64 (((ax t ab ae).1).out))]) j0 ku k! rfl rfl (by simp only[AV.cells,List.all_cons,List.all_nil,Bool.and_true,Bool.and_self,bP,bB,bQ,bR,bl,cm,cn,cq,cr,ct,bS])
         have l6:Has h rW:=Has.aU gC b9 b4 o!
         have yO:cJ (some (.slice 37)) (some bA)=some (AV.int .i64 ((l_.length:Nat):Int)):=bE.len
         have QN:cJ (some (.slice 37)) (some bA)=some (AV.int .i64 ((l_.length:Nat):Int)):=bE.len
         have u16:=BH 3 false true l_.length 1 o! o!
         obtain ⟨Tt,Tu,DZ⟩:=bE.elem (i:=(l_.length - 1)) o!
         have QO:c_ env (some (.slice 37)) (some bA) (some (AV.int .i64 ((l_.length - 1:Nat):Int)))=some (AV.ptr Tt Tu):=DZ
         have Lb:bN env rW 3 (AV.ptr Tt (Tu+2))=some (AV.int .i64 ((l_.g (l_.length - 1)).aP)):=(bE.has l6).part (t:=3) (j:=2) o! DZ k! rfl
         obtain ⟨Hd,D0,uC,He,nB,fh⟩:=Dx (t:=3) (n:=1) (i:=h4.nx) (o:=0) (v:=(AV.int .i64 (imax ready ((l_.g (l_.length - 1)).aP)))) (N:=[(AV.int .i64 (imax ready ((l_.g (l_.length - 1)).aP)))]) nX (b9 _ _ o! (ch _ _ (bI _ _ mz))) k! rfl k! k! (by simp only[AV.cells,List.all_cons,List.all_nil,Bool.and_true,Bool.and_self,bP,bB,bQ,bR,bl,cm,cn,cq,cr,ct,bS])
         have uD:Has h Hd:=Has.aU l6 fh b4 o!
         obtain ⟨QP,p_,Lc,fC,B3⟩:=ma (d:=d+11) l_ worker (bE.has uD) bf (by first | omega | assumption | (simp only[List.length_set,List.length_replicate,List.length_append,List.length_cons,List.length_nil,List.nil_append]<;>omega) | (rw[List.length_take];omega)) uC
         have mD:=fC.y
         have Tv:Hd.nx≤p_.nx:=fC.n
         have rA:Has h p_:=uD.trans fC.a
         have QR:=B3.small
         obtain ⟨AF,Ld,qg,Hf,uE,fP⟩:=cj mD (aH.cells [AV.aI] 25 false)
         have nC:Has h AF:=rA.trans fP
         have vA:Has p_ AF:=fP
         have Wz:AV.scalar QP=true:=B3.scalar
         obtain ⟨FR,Le,y7,Lf,y8,dX⟩:=NK (t:=25) (i:=p_.nx) (o:=0) (v:=QP) (N:=[QP]) qg uE k! B3.scalar k! k!
         have y9:Has h FR:=Has.aU nC dX b4 o!
         have vB:Has p_ FR:=Has.aU vA dX mD o!
         obtain ⟨zr,Lg,AG,Hg,uF,fD⟩:=cj y7 (aH.cells [AV.nilFunc] 89 false)
         have uG:Has h zr:=y9.trans fD
         have vC:Has p_ zr:=vB.trans fD
         obtain ⟨D1,Lh,ss,Tw,D2,dL⟩:=Dx (t:=89) (n:=1) (i:=FR.nx) (o:=0) (v:=(AV.func 34 [] [(AV.ptr h1.nx 0),(AV.ptr h2.nx 0),(AV.ptr h3.nx 0),(AV.ptr h6.nx 0)])) (N:=[(AV.func 34 [] [(AV.ptr h1.nx 0),(AV.ptr h2.nx 0),(AV.ptr h3.nx 0),(AV.ptr h6.nx 0)])]) AG uF k! rfl k! k! (by simp only[AV.cells,List.all_cons,List.all_nil,Bool.and_true,Bool.and_self,bP,bB,bQ,bR,bl,cm,cn,cq,cr,ct,bS,GR])
         have uH:Has h D1:=Has.aU uG dL b4 o!
         have oX:Has p_ D1:=Has.aU vC dL mD o!
         have SW:=pV (d:=d+11) 100001 (fun y=>br y t (aM l_ worker) (imax ready ((l_.g (l_.length - 1)).aP)) worker ab ae ((ax t ab ae).1)) (fun y hh yy aa=>rX (d:=d+4) y t h.nx (aM l_ worker) p_.nx FR.nx (imax ready ((l_.g (l_.length - 1)).aP)) h4.nx worker h1.nx ab h2.nx ae h3.nx ((ax t ab ae).1) h6.nx (aD.mono aa (aD.mono uH b8)) (aa _ _ (dL _ _ o! (fD _ _ (dX _ _ o! (fP _ _ (fC.a _ _ (fh _ _ o! (b9 _ _ o! (ch _ _ (bI _ _ (dj _ _ (dx _ _ (eH _ _ (b5 _ _ aE)))))))))))))) ((B3.has oX).has aa) (aa _ _ (dL _ _ o! (fD _ _ y8))) (aa _ _ D2) (aa _ _ (dL _ _ o! (fD _ _ (dX _ _ o! (fP _ _ (fC.a _ _ nB)))))) bf (aa _ _ (dL _ _ o! (fD _ _ (dX _ _ o! (fP _ _ (fC.a _ _ (fh _ _ o! (b9 _ _ o! (ch _ _ (bI _ _ (dj _ _ (dx _ _ (eH _ _ cM))))))))))))) (aa _ _ (dL _ _ o! (fD _ _ (dX _ _ o! (fP _ _ (fC.a _ _ (fh _ _ o! (b9 _ _ o! (ch _ _ (bI _ _ (dj _ _ (dx _ _ jY)))))))))))) (aa _ _ (dL _ _ o! (fD _ _ (dX _ _ o! (fP _ _ (fC.a _ _ (fh _ _ o! (b9 _ _ o! (ch _ _ (bI _ _ (dj _ _ jl))))))))))) (aD.mono aa trivial) (aa _ _ (dL _ _ o! (fD _ _ (dX _ _ o! (fP _ _ (fC.a _ _ (fh _ _ o! nY))))))) yy) (by first | omega | assumption | (simp only[List.length_set,List.length_replicate,List.length_append,List.length_cons,List.length_nil,List.nil_append]<;>omega) | (rw[List.length_take];omega)) (by first | omega | assumption | (simp only[List.length_set,List.length_replicate,List.length_append,List.length_cons,List.length_nil,List.nil_append]<;>omega) | (rw[List.length_take];omega)) ss
         have SX:=oU (d:=d+11) (IntKind.i64.wrap ((imax ready ((l_.g (l_.length - 1)).aP))+(bp 100001 (fun y=>br y t (aM l_ worker) (imax ready ((l_.g (l_.length - 1)).aP)) worker ab ae ((ax t ab ae).1))))) worker h1.nx ab h2.nx ae h3.nx ((ax t ab ae).1) h6.nx bf (dL _ _ o! (fD _ _ (dX _ _ o! (fP _ _ (fC.a _ _ (fh _ _ o! (b9 _ _ o! (ch _ _ (bI _ _ (dj _ _ (dx _ _ (eH _ _ cM)))))))))))) (dL _ _ o! (fD _ _ (dX _ _ o! (fP _ _ (fC.a _ _ (fh _ _ o! (b9 _ _ o! (ch _ _ (bI _ _ (dj _ _ (dx _ _ jY))))))))))) (dL _ _ o! (fD _ _ (dX _ _ o! (fP _ _ (fC.a _ _ (fh _ _ o! (b9 _ _ o! (ch _ _ (bI _ _ (dj _ _ jl)))))))))) trivial (dL _ _ o! (fD _ _ (dX _ _ o! (fP _ _ (fC.a _ _ (fh _ _ o! nY)))))) ss
         have WA:aD.ok D1 (aN (IntKind.i64.wrap ((imax ready ((l_.g (l_.length - 1)).aP))+(bp 100001 (fun y=>br y t (aM l_ worker) (imax ready ((l_.g (l_.length - 1)).aP)) worker ab ae ((ax t ab ae).1))))) worker ab ae ((ax t ab ae).1)):=bf
         obtain ⟨Tx,Li,Lj,Ty,Lk,y_⟩:=cj ss (aH.cells [(AV.str []),(AV.int .i64 0),(AV.int .i64 0),(AV.int .i64 0),(AV.int .i64 0)] 37 false)
         have Ll:Has h Tx:=uH.trans y_
         have vD:Has p_ Tx:=oX.trans y_
         obtain ⟨Tz,Lm,D3,TA,Hh,tc⟩:=dW (t:=37) (n:=5) (i:=D1.nx) (L:=[(AV.str ((aN (IntKind.i64.wrap ((imax ready ((l_.g (l_.length - 1)).aP))+(bp 100001 (fun y=>br y t (aM l_ worker) (imax ready ((l_.g (l_.length - 1)).aP)) worker ab ae ((ax t ab ae).1))))) worker ab ae ((ax t ab ae).1)).worker)),(AV.int .i64 ((aN (IntKind.i64.wrap ((imax ready ((l_.g (l_.length - 1)).aP))+(bp 100001 (fun y=>br y t (aM l_ worker) (imax ready ((l_.g (l_.length - 1)).aP)) worker ab ae ((ax t ab ae).1))))) worker ab ae ((ax t ab ae).1)).ab)),(AV.int .i64 ((aN (IntKind.i64.wrap ((imax ready ((l_.g (l_.length - 1)).aP))+(bp 100001 (fun y=>br y t (aM l_ worker) (imax ready ((l_.g (l_.length - 1)).aP)) worker ab ae ((ax t ab ae).1))))) worker ab ae ((ax t ab ae).1)).aP)),(AV.int .i64 ((aN (IntKind.i64.wrap ((imax ready ((l_.g (l_.length - 1)).aP))+(bp 100001 (fun y=>br y t (aM l_ worker) (imax ready ((l_.g (l_.length - 1)).aP)) worker ab ae ((ax t ab ae).1))))) worker ab ae ((ax t ab ae).1)).leave)),(AV.int .i64 ((aN (IntKind.i64.wrap ((imax ready ((l_.g (l_.length - 1)).aP))+(bp 100001 (fun y=>br y t (aM l_ worker) (imax ready ((l_.g (l_.length - 1)).aP)) worker ab ae ((ax t ab ae).1))))) worker ab ae ((ax t ab ae).1)).out))]) Lj Lk k! rfl rfl (by simp only[AV.cells,List.all_cons,List.all_nil,Bool.and_true,Bool.and_self,bP,bB,bQ,bR,bl,cm,cn,cq,cr,ct,bS])
         have Ln:Has h Tz:=Has.aU Ll tc b4 o!
         have Iy:Has p_ Tz:=Has.aU vD tc mD o!
         have WB:=aZ (d:=d+10) ((aN (IntKind.i64.wrap ((imax ready ((l_.g (l_.length - 1)).aP))+(bp 100001 (fun y=>br y t (aM l_ worker) (imax ready ((l_.g (l_.length - 1)).aP)) worker ab ae ((ax t ab ae).1))))) worker ab ae ((ax t ab ae).1)).out) D3
         obtain ⟨TB,Lp,TC,TD,Lq,FT⟩:=dW (t:=37) (n:=5) (i:=h5.nx) (L:=[(AV.str ((aN (IntKind.i64.wrap ((imax ready ((l_.g (l_.length - 1)).aP))+(bp 100001 (fun y=>br y t (aM l_ worker) (imax ready ((l_.g (l_.length - 1)).aP)) worker ab ae ((ax t ab ae).1))))) worker ab ae ((ax t ab ae).1)).worker)),(AV.int .i64 ((aN (IntKind.i64.wrap ((imax ready ((l_.g (l_.length - 1)).aP))+(bp 100001 (fun y=>br y t (aM l_ worker) (imax ready ((l_.g (l_.length - 1)).aP)) worker ab ae ((ax t ab ae).1))))) worker ab ae ((ax t ab ae).1)).ab)),(AV.int .i64 ((aN (IntKind.i64.wrap ((imax ready ((l_.g (l_.length - 1)).aP))+(bp 100001 (fun y=>br y t (aM l_ worker) (imax ready ((l_.g (l_.length - 1)).aP)) worker ab ae ((ax t ab ae).1))))) worker ab ae ((ax t ab ae).1)).aP)),(AV.int .i64 ((aN (IntKind.i64.wrap ((imax ready ((l_.g (l_.length - 1)).aP))+(bp 100001 (fun y=>br y t (aM l_ worker) (imax ready ((l_.g (l_.length - 1)).aP)) worker ab ae ((ax t ab ae).1))))) worker ab ae ((ax t ab ae).1)).leave)),(AV.int .i64 ((aN (IntKind.i64.wrap ((imax ready ((l_.g (l_.length - 1)).aP))+(bp 100001 (fun y=>br y t (aM l_ worker) (imax ready ((l_.g (l_.length - 1)).aP)) worker ab ae ((ax t ab ae).1))))) worker ab ae ((ax t ab ae).1)).out))]) D3 (tc _ _ o! (y_ _ _ (dL _ _ o! (fD _ _ (dX _ _ o! (fP _ _ (fC.a _ _ (fh _ _ o! (b9 _ _ o! (ch _ _ gP)))))))))) k! rfl rfl (by simp only[AV.cells,List.all_cons,List.all_nil,Bool.and_true,Bool.and_self,bP,bB,bQ,bR,bl,cm,cn,cq,cr,ct,bS])
         have Lr:Has h TB:=Has.aU Ln FT b4 o!
         have ev:=pk (d+12) jw ((AV.agg [t.ak,(AV.int .i64 t.rest),(AV.int .i64 t.day)])::bA::(AV.str worker)::(AV.int .i64 ab)::(AV.int .i64 ae)::(AV.int .i64 ready)::cz 64) h .ret TB (NN bm (fun i=>(AV.ptr i 0))<|NN eX (fun i=>(AV.ptr i 0))<|NN pL (fun i=>(AV.ptr i 0))<|NN re (fun i=>(AV.ptr i 0))<|NN yZ (fun i=>(AV.ptr i 0))<|NN gO (fun i=>(AV.ptr i 0))<|CC<|MM (aw 24 0 (AV.agg [t.ak,(AV.int .i64 t.rest),(AV.int .i64 t.day)]) (bI _ _ (dj _ _ (dx _ _ (eH _ _ (b5 _ _ aE))))) k!)<|CC<|MM (aw 9 0 (AV.str worker) (bI _ _ (dj _ _ (dx _ _ (eH _ _ cM)))) k!)<|MM (aw 3 0 (AV.int .i64 ab) (bI _ _ (dj _ _ (dx _ _ jY))) k!)<|MM (aw 3 0 (AV.int .i64 ae) (bI _ _ (dj _ _ jl)) k!)<|MM (aw 3 0 (AV.int .i64 ready) (bI _ _ mz) k!)<|EE k7<|CN 2<|VV (cS 28 false true .i64 (bX t l_ worker ab ae ready) 0)<|BB f0<|MM (aw 24 0 (AV.agg [t.ak,(AV.int .i64 t.rest),(AV.int .i64 t.day)]) (bI _ _ (dj _ _ (dx _ _ (eH _ _ (b5 _ _ aE))))) k!)<|MM (aw 3 0 (AV.int .i64 ab) (bI _ _ (dj _ _ (dx _ _ jY))) k!)<|MM (aw 3 0 (AV.int .i64 ae) (bI _ _ (dj _ _ jl)) k!)<|EE k9<|CN 3<|NN oW (fun i=>(AV.ptr i 0))<|SS rf<|CN 3<|BB f1<|CC<|VV yO<|VV (dA 3 false true .i64 ((l_.length:Nat):Int) 0)<|BB f2<|MM (aw 3 0 (AV.int .i64 ready) (b9 _ _ o! (ch _ _ (bI _ _ mz))) k!)<|CN 2<|VV QN<|VV u16<|VV QO<|CC<|MM Lb<|CC<|SS D0<|HH (aw 3 0 (AV.int .i64 ready) (b9 _ _ o! (ch _ _ (bI _ _ mz))) k!)<|HH (show AV.same 20 (AV.int .i64 ready) (AV.int .i64 ready)=true from aQ 19 _ _)<|HH Lb<|HH (show AV.same 20 (AV.int .i64 ((l_.g (l_.length - 1)).aP)) (AV.int .i64 ((l_.g (l_.length - 1)).aP))=true from aQ 19 _ _)<|CC<|MM (aw 9 0 (AV.str worker) (fh _ _ o! (b9 _ _ o! (ch _ _ (bI _ _ (dj _ _ (dx _ _ (eH _ _ cM))))))) k!)<|EE Lc<|NN Ld (fun i=>(AV.ptr i 0))<|SS Le<|CC<|NN Lg (fun i=>(AV.ptr i 0))<|SS Lh<|MM (aw 3 0 (AV.int .i64 (imax ready ((l_.g (l_.length - 1)).aP))) (dL _ _ o! (fD _ _ (dX _ _ o! (fP _ _ (fC.a _ _ nB))))) k!)<|CC<|EE SW<|CN 2<|HH (aw 3 0 (AV.int .i64 (imax ready ((l_.g (l_.length - 1)).aP))) (dL _ _ o! (fD _ _ (dX _ _ o! (fP _ _ (fC.a _ _ nB))))) k!)<|HH (show AV.same 20 (AV.int .i64 (imax ready ((l_.g (l_.length - 1)).aP))) (AV.int .i64 (imax ready ((l_.g (l_.length - 1)).aP)))=true from aQ 19 _ _)<|HH (aw 3 0 (AV.int .i64 (imax ready ((l_.g (l_.length - 1)).aP))) (dL _ _ o! (fD _ _ (dX _ _ o! (fP _ _ (fC.a _ _ nB))))) k!)<|HH (show AV.same 20 (AV.int .i64 (imax ready ((l_.g (l_.length - 1)).aP))) (AV.int .i64 (imax ready ((l_.g (l_.length - 1)).aP)))=true from aQ 19 _ _)<|MM (aw 89 0 (AV.func 34 [] [(AV.ptr h1.nx 0),(AV.ptr h2.nx 0),(AV.ptr h3.nx 0),(AV.ptr h6.nx 0)]) D2 k!)<|CC<|EE SX<|NN Li (fun i=>(AV.ptr i 0))<|SS Lm<|CC<|MM (aw 3 4 (AV.int .i64 ((aN (IntKind.i64.wrap ((imax ready ((l_.g (l_.length - 1)).aP))+(bp 100001 (fun y=>br y t (aM l_ worker) (imax ready ((l_.g (l_.length - 1)).aP)) worker ab ae ((ax t ab ae).1))))) worker ab ae ((ax t ab ae).1)).out)) Hh k!)<|EE WB<|BB f3<|MM (aw 37 0 (AV.agg [(AV.str ((aN (IntKind.i64.wrap ((imax ready ((l_.g (l_.length - 1)).aP))+(bp 100001 (fun y=>br y t (aM l_ worker) (imax ready ((l_.g (l_.length - 1)).aP)) worker ab ae ((ax t ab ae).1))))) worker ab ae ((ax t ab ae).1)).worker)),(AV.int .i64 ((aN (IntKind.i64.wrap ((imax ready ((l_.g (l_.length - 1)).aP))+(bp 100001 (fun y=>br y t (aM l_ worker) (imax ready ((l_.g (l_.length - 1)).aP)) worker ab ae ((ax t ab ae).1))))) worker ab ae ((ax t ab ae).1)).ab)),(AV.int .i64 ((aN (IntKind.i64.wrap ((imax ready ((l_.g (l_.length - 1)).aP))+(bp 100001 (fun y=>br y t (aM l_ worker) (imax ready ((l_.g (l_.length - 1)).aP)) worker ab ae ((ax t ab ae).1))))) worker ab ae ((ax t ab ae).1)).aP)),(AV.int .i64 ((aN (IntKind.i64.wrap ((imax ready ((l_.g (l_.length - 1)).aP))+(bp 100001 (fun y=>br y t (aM l_ worker) (imax ready ((l_.g (l_.length - 1)).aP)) worker ab ae ((ax t ab ae).1))))) worker ab ae ((ax t ab ae).1)).leave)),(AV.int .i64 ((aN (IntKind.i64.wrap ((imax ready ((l_.g (l_.length - 1)).aP))+(bp 100001 (fun y=>br y t (aM l_ worker) (imax ready ((l_.g (l_.length - 1)).aP)) worker ab ae ((ax t ab ae).1))))) worker ab ae ((ax t ab ae).1)).out))]) Hh k!)<|SS Lp<|CC<|ZZ) k!
         have e:bL t l_ worker ab ae ready=((aN (IntKind.i64.wrap ((imax ready ((l_.g (l_.length - 1)).aP))+(bp 100001 (fun y=>br y t (aM l_ worker) (imax ready ((l_.g (l_.length - 1)).aP)) worker ab ae ((ax t ab ae).1))))) worker ab ae ((ax t ab ae).1)),0):=by simp only[bL,f0,f1,f2,f3,cond_true,cond_false]
         rw[e]
         exact az rfl (cK (a:=12) (r:=13) (t:=37) (i:=h5.nx) Tryz.func13 oV k! (.inr rfl) ev k! (dE Lq k!)) Lr rfl
       · obtain ⟨h1,bm,aL,cu,aE,bh⟩:=cj b4 (aH.cells [t.ak,(AV.int .i64 t.rest),(AV.int .i64 t.day)] 24 false)
         have aG:Has h h1:=bh
         obtain ⟨h2,eX,dH,lj,cM,b5⟩:=cj aL (aH.cells [(AV.str worker)] 9 false)
         have cB:Has h h2:=aG.trans b5
         obtain ⟨h3,pL,kA,BK,jY,eH⟩:=cj dH (aH.cells [(AV.int .i64 ab)] 3 false)
         have iA:Has h h3:=cB.trans eH
         obtain ⟨h4,re,eY,yA,jl,dx⟩:=cj kA (aH.cells [(AV.int .i64 ae)] 3 false)
         have gN:Has h h4:=iA.trans dx
         obtain ⟨h5,yZ,eB,La,mz,dj⟩:=cj eY (aH.cells [(AV.int .i64 ready)] 3 false)
         have ck:Has h h5:=gN.trans dj
         obtain ⟨h6,gO,eQ,nL,gP,bI⟩:=cj eB (aH.cells [(AV.str []),(AV.int .i64 0),(AV.int .i64 0),(AV.int .i64 0),(AV.int .i64 0)] 37 false)
         have ek:Has h h6:=ck.trans bI
         have k7:=iQ (d:=d+1) t l_ worker ab ae ready (aD.mono ek b8) (bE.has ek) bf eQ
         have k9:=jk (d:=d+9) t ab ae (aD.mono ek b8) eQ
         obtain ⟨nG,oW,j0,wx,ku,ch⟩:=cj eQ (aH.cells [(AV.int .i64 0),(AV.int .i64 0),(AV.int .i64 0)] 67 false)
         have gC:Has h nG:=ek.trans ch
         obtain ⟨rW,rf,nX,DF,nY,b9⟩:=dW (t:=67) (n:=3) (i:=h6.nx) (L:=[(AV.int .i64 (((ax t ab ae).1).ab)),(AV.int .i64 (((ax t ab ae).1).ae)),(AV.int .i64 (((ax t ab ae).1).out))]) j0 ku k! rfl rfl (by simp only[AV.cells,List.all_cons,List.all_nil,Bool.and_true,Bool.and_self,bP,bB,bQ,bR,bl,cm,cn,cq,cr,ct,bS])
         have l6:Has h rW:=Has.aU gC b9 b4 o!
         have yO:cJ (some (.slice 37)) (some bA)=some (AV.int .i64 ((l_.length:Nat):Int)):=bE.len
         have QN:cJ (some (.slice 37)) (some bA)=some (AV.int .i64 ((l_.length:Nat):Int)):=bE.len
         have u16:=BH 3 false true l_.length 1 o! o!
         obtain ⟨Tt,Tu,DZ⟩:=bE.elem (i:=(l_.length - 1)) o!
         have QO:c_ env (some (.slice 37)) (some bA) (some (AV.int .i64 ((l_.length - 1:Nat):Int)))=some (AV.ptr Tt Tu):=DZ
         have Lb:bN env rW 3 (AV.ptr Tt (Tu+2))=some (AV.int .i64 ((l_.g (l_.length - 1)).aP)):=(bE.has l6).part (t:=3) (j:=2) o! DZ k! rfl
         obtain ⟨Hd,D0,uC,He,nB,fh⟩:=Dx (t:=3) (n:=1) (i:=h4.nx) (o:=0) (v:=(AV.int .i64 (imax ready ((l_.g (l_.length - 1)).aP)))) (N:=[(AV.int .i64 (imax ready ((l_.g (l_.length - 1)).aP)))]) nX (b9 _ _ o! (ch _ _ (bI _ _ mz))) k! rfl k! k! (by simp only[AV.cells,List.all_cons,List.all_nil,Bool.and_true,Bool.and_self,bP,bB,bQ,bR,bl,cm,cn,cq,cr,ct,bS])
         have uD:Has h Hd:=Has.aU l6 fh b4 o!
         obtain ⟨QP,p_,Lc,fC,B3⟩:=ma (d:=d+11) l_ worker (bE.has uD) bf (by first | omega | assumption | (simp only[List.length_set,List.length_replicate,List.length_append,List.length_cons,List.length_nil,List.nil_append]<;>omega) | (rw[List.length_take];omega)) uC
         have mD:=fC.y
         have Tv:Hd.nx≤p_.nx:=fC.n
         have rA:Has h p_:=uD.trans fC.a
         have QR:=B3.small
         obtain ⟨AF,Ld,qg,Hf,uE,fP⟩:=cj mD (aH.cells [AV.aI] 25 false)
         have nC:Has h AF:=rA.trans fP
         have vA:Has p_ AF:=fP
         have Wz:AV.scalar QP=true:=B3.scalar
         obtain ⟨FR,Le,y7,Lf,y8,dX⟩:=NK (t:=25) (i:=p_.nx) (o:=0) (v:=QP) (N:=[QP]) qg uE k! B3.scalar k! k!
         have y9:Has h FR:=Has.aU nC dX b4 o!
         have vB:Has p_ FR:=Has.aU vA dX mD o!
         obtain ⟨zr,Lg,AG,Hg,uF,fD⟩:=cj y7 (aH.cells [AV.nilFunc] 89 false)
         have uG:Has h zr:=y9.trans fD
         have vC:Has p_ zr:=vB.trans fD
         obtain ⟨D1,Lh,ss,Tw,D2,dL⟩:=Dx (t:=89) (n:=1) (i:=FR.nx) (o:=0) (v:=(AV.func 34 [] [(AV.ptr h1.nx 0),(AV.ptr h2.nx 0),(AV.ptr h3.nx 0),(AV.ptr h6.nx 0)])) (N:=[(AV.func 34 [] [(AV.ptr h1.nx 0),(AV.ptr h2.nx 0),(AV.ptr h3.nx 0),(AV.ptr h6.nx 0)])]) AG uF k! rfl k! k! (by simp only[AV.cells,List.all_cons,List.all_nil,Bool.and_true,Bool.and_self,bP,bB,bQ,bR,bl,cm,cn,cq,cr,ct,bS,GR])
         have uH:Has h D1:=Has.aU uG dL b4 o!
         have oX:Has p_ D1:=Has.aU vC dL mD o!
         have SW:=pV (d:=d+11) 100001 (fun y=>br y t (aM l_ worker) (imax ready ((l_.g (l_.length - 1)).aP)) worker ab ae ((ax t ab ae).1)) (fun y hh yy aa=>rX (d:=d+4) y t h.nx (aM l_ worker) p_.nx FR.nx (imax ready ((l_.g (l_.length - 1)).aP)) h4.nx worker h1.nx ab h2.nx ae h3.nx ((ax t ab ae).1) h6.nx (aD.mono aa (aD.mono uH b8)) (aa _ _ (dL _ _ o! (fD _ _ (dX _ _ o! (fP _ _ (fC.a _ _ (fh _ _ o! (b9 _ _ o! (ch _ _ (bI _ _ (dj _ _ (dx _ _ (eH _ _ (b5 _ _ aE)))))))))))))) ((B3.has oX).has aa) (aa _ _ (dL _ _ o! (fD _ _ y8))) (aa _ _ D2) (aa _ _ (dL _ _ o! (fD _ _ (dX _ _ o! (fP _ _ (fC.a _ _ nB)))))) bf (aa _ _ (dL _ _ o! (fD _ _ (dX _ _ o! (fP _ _ (fC.a _ _ (fh _ _ o! (b9 _ _ o! (ch _ _ (bI _ _ (dj _ _ (dx _ _ (eH _ _ cM))))))))))))) (aa _ _ (dL _ _ o! (fD _ _ (dX _ _ o! (fP _ _ (fC.a _ _ (fh _ _ o! (b9 _ _ o! (ch _ _ (bI _ _ (dj _ _ (dx _ _ jY)))))))))))) (aa _ _ (dL _ _ o! (fD _ _ (dX _ _ o! (fP _ _ (fC.a _ _ (fh _ _ o! (b9 _ _ o! (ch _ _ (bI _ _ (dj _ _ jl))))))))))) (aD.mono aa trivial) (aa _ _ (dL _ _ o! (fD _ _ (dX _ _ o! (fP _ _ (fC.a _ _ (fh _ _ o! nY))))))) yy) (by first | omega | assumption | (simp only[List.length_set,List.length_replicate,List.length_append,List.length_cons,List.length_nil,List.nil_append]<;>omega) | (rw[List.length_take];omega)) (by first | omega | assumption | (simp only[List.length_set,List.length_replicate,List.length_append,List.length_cons,List.length_nil,List.nil_append]<;>omega) | (rw[List.length_take];omega)) ss
         have SX:=oU (d:=d+11) (IntKind.i64.wrap ((imax ready ((l_.g (l_.length - 1)).aP))+(bp 100001 (fun y=>br y t (aM l_ worker) (imax ready ((l_.g (l_.length - 1)).aP)) worker ab ae ((ax t ab ae).1))))) worker h1.nx ab h2.nx ae h3.nx ((ax t ab ae).1) h6.nx bf (dL _ _ o! (fD _ _ (dX _ _ o! (fP _ _ (fC.a _ _ (fh _ _ o! (b9 _ _ o! (ch _ _ (bI _ _ (dj _ _ (dx _ _ (eH _ _ cM)))))))))))) (dL _ _ o! (fD _ _ (dX _ _ o! (fP _ _ (fC.a _ _ (fh _ _ o! (b9 _ _ o! (ch _ _ (bI _ _ (dj _ _ (dx _ _ jY))))))))))) (dL _ _ o! (fD _ _ (dX _ _ o! (fP _ _ (fC.a _ _ (fh _ _ o! (b9 _ _ o! (ch _ _ (bI _ _ (dj _ _ jl)))))))))) trivial (dL _ _ o! (fD _ _ (dX _ _ o! (fP _ _ (fC.a _ _ (fh _ _ o! nY)))))) ss
         have WA:aD.ok D1 (aN (IntKind.i64.wrap ((imax ready ((l_.g (l_.length - 1)).aP))+(bp 100001 (fun y=>br y t (aM l_ worker) (imax ready ((l_.g (l_.length - 1)).aP)) worker ab ae ((ax t ab ae).1))))) worker ab ae ((ax t ab ae).1)):=bf
         obtain ⟨Tx,Li,Lj,Ty,Lk,y_⟩:=cj ss (aH.cells [(AV.str []),(AV.int .i64 0),(AV.int .i64 0),(AV.int .i64 0),(AV.int .i64 0)] 37 false)
         have Ll:Has h Tx:=uH.trans y_
         have vD:Has p_ Tx:=oX.trans y_
         obtain ⟨Tz,Lm,D3,TA,Hh,tc⟩:=dW (t:=37) (n:=5) (i:=D1.nx) (L:=[(AV.str ((aN (IntKind.i64.wrap ((imax ready ((l_.g (l_.length - 1)).aP))+(bp 100001 (fun y=>br y t (aM l_ worker) (imax ready ((l_.g (l_.length - 1)).aP)) worker ab ae ((ax t ab ae).1))))) worker ab ae ((ax t ab ae).1)).worker)),(AV.int .i64 ((aN (IntKind.i64.wrap ((imax ready ((l_.g (l_.length - 1)).aP))+(bp 100001 (fun y=>br y t (aM l_ worker) (imax ready ((l_.g (l_.length - 1)).aP)) worker ab ae ((ax t ab ae).1))))) worker ab ae ((ax t ab ae).1)).ab)),(AV.int .i64 ((aN (IntKind.i64.wrap ((imax ready ((l_.g (l_.length - 1)).aP))+(bp 100001 (fun y=>br y t (aM l_ worker) (imax ready ((l_.g (l_.length - 1)).aP)) worker ab ae ((ax t ab ae).1))))) worker ab ae ((ax t ab ae).1)).aP)),(AV.int .i64 ((aN (IntKind.i64.wrap ((imax ready ((l_.g (l_.length - 1)).aP))+(bp 100001 (fun y=>br y t (aM l_ worker) (imax ready ((l_.g (l_.length - 1)).aP)) worker ab ae ((ax t ab ae).1))))) worker ab ae ((ax t ab ae).1)).leave)),(AV.int .i64 ((aN (IntKind.i64.wrap ((imax ready ((l_.g (l_.length - 1)).aP))+(bp 100001 (fun y=>br y t (aM l_ worker) (imax ready ((l_.g (l_.length - 1)).aP)) worker ab ae ((ax t ab ae).1))))) worker ab ae ((ax t ab ae).1)).out))]) Lj Lk k! rfl rfl (by simp only[AV.cells,List.all_cons,List.all_nil,Bool.and_true,Bool.and_self,bP,bB,bQ,bR,bl,cm,cn,cq,cr,ct,bS])
         have Ln:Has h Tz:=Has.aU Ll tc b4 o!
         have Iy:Has p_ Tz:=Has.aU vD tc mD o!
         have WB:=aZ (d:=d+10) ((aN (IntKind.i64.wrap ((imax ready ((l_.g (l_.length - 1)).aP))+(bp 100001 (fun y=>br y t (aM l_ worker) (imax ready ((l_.g (l_.length - 1)).aP)) worker ab ae ((ax t ab ae).1))))) worker ab ae ((ax t ab ae).1)).out) D3
         obtain ⟨TB,Lp,TC,TD,Lq,FT⟩:=dW (t:=37) (n:=5) (i:=h5.nx) (L:=[(AV.str []),(AV.int .i64 0),(AV.int .i64 0),(AV.int .i64 0),(AV.int .i64 0)]) D3 (tc _ _ o! (y_ _ _ (dL _ _ o! (fD _ _ (dX _ _ o! (fP _ _ (fC.a _ _ (fh _ _ o! (b9 _ _ o! (ch _ _ gP)))))))))) k! rfl rfl (by simp only[AV.cells,List.all_cons,List.all_nil,Bool.and_true,Bool.and_self,bP,bB,bQ,bR,bl,cm,cn,cq,cr,ct,bS])
         have Lr:Has h TB:=Has.aU Ln FT b4 o!
         have ev:=pk (d+12) jw ((AV.agg [t.ak,(AV.int .i64 t.rest),(AV.int .i64 t.day)])::bA::(AV.str worker)::(AV.int .i64 ab)::(AV.int .i64 ae)::(AV.int .i64 ready)::cz 64) h .ret TB (NN bm (fun i=>(AV.ptr i 0))<|NN eX (fun i=>(AV.ptr i 0))<|NN pL (fun i=>(AV.ptr i 0))<|NN re (fun i=>(AV.ptr i 0))<|NN yZ (fun i=>(AV.ptr i 0))<|NN gO (fun i=>(AV.ptr i 0))<|CC<|MM (aw 24 0 (AV.agg [t.ak,(AV.int .i64 t.rest),(AV.int .i64 t.day)]) (bI _ _ (dj _ _ (dx _ _ (eH _ _ (b5 _ _ aE))))) k!)<|CC<|MM (aw 9 0 (AV.str worker) (bI _ _ (dj _ _ (dx _ _ (eH _ _ cM)))) k!)<|MM (aw 3 0 (AV.int .i64 ab) (bI _ _ (dj _ _ (dx _ _ jY))) k!)<|MM (aw 3 0 (AV.int .i64 ae) (bI _ _ (dj _ _ jl)) k!)<|MM (aw 3 0 (AV.int .i64 ready) (bI _ _ mz) k!)<|EE k7<|CN 2<|VV (cS 28 false true .i64 (bX t l_ worker ab ae ready) 0)<|BB f0<|MM (aw 24 0 (AV.agg [t.ak,(AV.int .i64 t.rest),(AV.int .i64 t.day)]) (bI _ _ (dj _ _ (dx _ _ (eH _ _ (b5 _ _ aE))))) k!)<|MM (aw 3 0 (AV.int .i64 ab) (bI _ _ (dj _ _ (dx _ _ jY))) k!)<|MM (aw 3 0 (AV.int .i64 ae) (bI _ _ (dj _ _ jl)) k!)<|EE k9<|CN 3<|NN oW (fun i=>(AV.ptr i 0))<|SS rf<|CN 3<|BB f1<|CC<|VV yO<|VV (dA 3 false true .i64 ((l_.length:Nat):Int) 0)<|BB f2<|MM (aw 3 0 (AV.int .i64 ready) (b9 _ _ o! (ch _ _ (bI _ _ mz))) k!)<|CN 2<|VV QN<|VV u16<|VV QO<|CC<|MM Lb<|CC<|SS D0<|HH (aw 3 0 (AV.int .i64 ready) (b9 _ _ o! (ch _ _ (bI _ _ mz))) k!)<|HH (show AV.same 20 (AV.int .i64 ready) (AV.int .i64 ready)=true from aQ 19 _ _)<|HH Lb<|HH (show AV.same 20 (AV.int .i64 ((l_.g (l_.length - 1)).aP)) (AV.int .i64 ((l_.g (l_.length - 1)).aP))=true from aQ 19 _ _)<|CC<|MM (aw 9 0 (AV.str worker) (fh _ _ o! (b9 _ _ o! (ch _ _ (bI _ _ (dj _ _ (dx _ _ (eH _ _ cM))))))) k!)<|EE Lc<|NN Ld (fun i=>(AV.ptr i 0))<|SS Le<|CC<|NN Lg (fun i=>(AV.ptr i 0))<|SS Lh<|MM (aw 3 0 (AV.int .i64 (imax ready ((l_.g (l_.length - 1)).aP))) (dL _ _ o! (fD _ _ (dX _ _ o! (fP _ _ (fC.a _ _ nB))))) k!)<|CC<|EE SW<|CN 2<|HH (aw 3 0 (AV.int .i64 (imax ready ((l_.g (l_.length - 1)).aP))) (dL _ _ o! (fD _ _ (dX _ _ o! (fP _ _ (fC.a _ _ nB))))) k!)<|HH (show AV.same 20 (AV.int .i64 (imax ready ((l_.g (l_.length - 1)).aP))) (AV.int .i64 (imax ready ((l_.g (l_.length - 1)).aP)))=true from aQ 19 _ _)<|HH (aw 3 0 (AV.int .i64 (imax ready ((l_.g (l_.length - 1)).aP))) (dL _ _ o! (fD _ _ (dX _ _ o! (fP _ _ (fC.a _ _ nB))))) k!)<|HH (show AV.same 20 (AV.int .i64 (imax ready ((l_.g (l_.length - 1)).aP))) (AV.int .i64 (imax ready ((l_.g (l_.length - 1)).aP)))=true from aQ 19 _ _)<|MM (aw 89 0 (AV.func 34 [] [(AV.ptr h1.nx 0),(AV.ptr h2.nx 0),(AV.ptr h3.nx 0),(AV.ptr h6.nx 0)]) D2 k!)<|CC<|EE SX<|NN Li (fun i=>(AV.ptr i 0))<|SS Lm<|CC<|MM (aw 3 4 (AV.int .i64 ((aN (IntKind.i64.wrap ((imax ready ((l_.g (l_.length - 1)).aP))+(bp 100001 (fun y=>br y t (aM l_ worker) (imax ready ((l_.g (l_.length - 1)).aP)) worker ab ae ((ax t ab ae).1))))) worker ab ae ((ax t ab ae).1)).out)) Hh k!)<|EE WB<|BB f3<|CC<|SS Lp<|CC<|ZZ) k!
         have e:bL t l_ worker ab ae ready=((⟨[],0,0,0,0⟩:aO),9):=by simp only[bL,f0,f1,f2,f3,cond_true,cond_false]
         rw[e]
         exact az rfl (cK (a:=12) (r:=13) (t:=37) (i:=h5.nx) Tryz.func13 oV k! (.inr rfl) ev k! (dE Lq k!)) Lr rfl
     · have np:=of_decide_eq_false f2
       rcases Bool.eq_false_or_eq_true (bW ((aN (IntKind.i64.wrap (ready+(bp 100001 (fun y=>br y t (aM l_ worker) ready worker ab ae ((ax t ab ae).1))))) worker ab ae ((ax t ab ae).1)).out)) with f3 | f3
       · obtain ⟨h1,bm,aL,cu,aE,bh⟩:=cj b4 (aH.cells [t.ak,(AV.int .i64 t.rest),(AV.int .i64 t.day)] 24 false)
         have aG:Has h h1:=bh
         obtain ⟨h2,eX,dH,lj,cM,b5⟩:=cj aL (aH.cells [(AV.str worker)] 9 false)
         have cB:Has h h2:=aG.trans b5
         obtain ⟨h3,pL,kA,BK,jY,eH⟩:=cj dH (aH.cells [(AV.int .i64 ab)] 3 false)
         have iA:Has h h3:=cB.trans eH
         obtain ⟨h4,re,eY,yA,jl,dx⟩:=cj kA (aH.cells [(AV.int .i64 ae)] 3 false)
         have gN:Has h h4:=iA.trans dx
         obtain ⟨h5,yZ,eB,La,mz,dj⟩:=cj eY (aH.cells [(AV.int .i64 ready)] 3 false)
         have ck:Has h h5:=gN.trans dj
         obtain ⟨h6,gO,eQ,nL,gP,bI⟩:=cj eB (aH.cells [(AV.str []),(AV.int .i64 0),(AV.int .i64 0),(AV.int .i64 0),(AV.int .i64 0)] 37 false)
         have ek:Has h h6:=ck.trans bI
         have k7:=iQ (d:=d+1) t l_ worker ab ae ready (aD.mono ek b8) (bE.has ek) bf eQ
         have k9:=jk (d:=d+9) t ab ae (aD.mono ek b8) eQ
         obtain ⟨nG,oW,j0,wx,ku,ch⟩:=cj eQ (aH.cells [(AV.int .i64 0),(AV.int .i64 0),(AV.int .i64 0)] 67 false)
         have gC:Has h nG:=ek.trans ch
         obtain ⟨rW,rf,nX,DF,nY,b9⟩:=dW (t:=67) (n:=3) (i:=h6.nx) (L:=[(AV.int .i64 (((ax t ab ae).1).ab)),(AV.int .i64 (((ax t ab ae).1).ae)),(AV.int .i64 (((ax t ab ae).1).out))]) j0 ku k! rfl rfl (by simp only[AV.cells,List.all_cons,List.all_nil,Bool.and_true,Bool.and_self,bP,bB,bQ,bR,bl,cm,cn,cq,cr,ct,bS])
         have l6:Has h rW:=Has.aU gC b9 b4 o!
         have yO:cJ (some (.slice 37)) (some bA)=some (AV.int .i64 ((l_.length:Nat):Int)):=bE.len
         obtain ⟨Iz,wN,Ls,fE,B4⟩:=ma (d:=d+11) l_ worker (bE.has l6) bf (by first | omega | assumption | (simp only[List.length_set,List.length_replicate,List.length_append,List.length_cons,List.length_nil,List.nil_append]<;>omega) | (rw[List.length_take];omega)) nX
         have rl:=fE.y
         have ON:rW.nx≤wN.nx:=fE.n
         have Lt:Has h wN:=l6.trans fE.a
         have QS:=B4.small
         obtain ⟨OW,Lu,Hj,OX,D4,fQ⟩:=cj rl (aH.cells [AV.aI] 25 false)
         have D5:Has h OW:=Lt.trans fQ
         have vE:Has wN OW:=fQ
         have WC:AV.scalar Iz=true:=B4.scalar
         obtain ⟨mJ,D6,iK,OY,D7,dM⟩:=NK (t:=25) (i:=wN.nx) (o:=0) (v:=Iz) (N:=[Iz]) Hj D4 k! B4.scalar k! k!
         have j4:Has h mJ:=Has.aU D5 dM b4 o!
         have vF:Has wN mJ:=Has.aU vE dM rl o!
         obtain ⟨Hd,Lv,uC,He,nB,fF⟩:=cj iK (aH.cells [AV.nilFunc] 89 false)
         have uD:Has h Hd:=j4.trans fF
         have vG:Has wN Hd:=vF.trans fF
         obtain ⟨NU,Lw,za,TE,D8,dN⟩:=Dx (t:=89) (n:=1) (i:=mJ.nx) (o:=0) (v:=(AV.func 34 [] [(AV.ptr h1.nx 0),(AV.ptr h2.nx 0),(AV.ptr h3.nx 0),(AV.ptr h6.nx 0)])) (N:=[(AV.func 34 [] [(AV.ptr h1.nx 0),(AV.ptr h2.nx 0),(AV.ptr h3.nx 0),(AV.ptr h6.nx 0)])]) uC nB k! rfl k! k! (by simp only[AV.cells,List.all_cons,List.all_nil,Bool.and_true,Bool.and_self,bP,bB,bQ,bR,bl,cm,cn,cq,cr,ct,bS,GR])
         have D9:Has h NU:=Has.aU uD dN b4 o!
         have oY:Has wN NU:=Has.aU vG dN rl o!
         have KH:=pV (d:=d+11) 100001 (fun y=>br y t (aM l_ worker) ready worker ab ae ((ax t ab ae).1)) (fun y hh yy aa=>rX (d:=d+4) y t h.nx (aM l_ worker) wN.nx mJ.nx ready h4.nx worker h1.nx ab h2.nx ae h3.nx ((ax t ab ae).1) h6.nx (aD.mono aa (aD.mono D9 b8)) (aa _ _ (dN _ _ o! (fF _ _ (dM _ _ o! (fQ _ _ (fE.a _ _ (b9 _ _ o! (ch _ _ (bI _ _ (dj _ _ (dx _ _ (eH _ _ (b5 _ _ aE))))))))))))) ((B4.has oY).has aa) (aa _ _ (dN _ _ o! (fF _ _ D7))) (aa _ _ D8) (aa _ _ (dN _ _ o! (fF _ _ (dM _ _ o! (fQ _ _ (fE.a _ _ (b9 _ _ o! (ch _ _ (bI _ _ mz))))))))) bf (aa _ _ (dN _ _ o! (fF _ _ (dM _ _ o! (fQ _ _ (fE.a _ _ (b9 _ _ o! (ch _ _ (bI _ _ (dj _ _ (dx _ _ (eH _ _ cM)))))))))))) (aa _ _ (dN _ _ o! (fF _ _ (dM _ _ o! (fQ _ _ (fE.a _ _ (b9 _ _ o! (ch _ _ (bI _ _ (dj _ _ (dx _ _ jY))))))))))) (aa _ _ (dN _ _ o! (fF _ _ (dM _ _ o! (fQ _ _ (fE.a _ _ (b9 _ _ o! (ch _ _ (bI _ _ (dj _ _ jl)))))))))) (aD.mono aa trivial) (aa _ _ (dN _ _ o! (fF _ _ (dM _ _ o! (fQ _ _ (fE.a _ _ nY)))))) yy) (by first | omega | assumption | (simp only[List.length_set,List.length_replicate,List.length_append,List.length_cons,List.length_nil,List.nil_append]<;>omega) | (rw[List.length_take];omega)) (by first | omega | assumption | (simp only[List.length_set,List.length_replicate,List.length_append,List.length_cons,List.length_nil,List.nil_append]<;>omega) | (rw[List.length_take];omega)) za
         have SU:=oU (d:=d+11) (IntKind.i64.wrap (ready+(bp 100001 (fun y=>br y t (aM l_ worker) ready worker ab ae ((ax t ab ae).1))))) worker h1.nx ab h2.nx ae h3.nx ((ax t ab ae).1) h6.nx bf (dN _ _ o! (fF _ _ (dM _ _ o! (fQ _ _ (fE.a _ _ (b9 _ _ o! (ch _ _ (bI _ _ (dj _ _ (dx _ _ (eH _ _ cM))))))))))) (dN _ _ o! (fF _ _ (dM _ _ o! (fQ _ _ (fE.a _ _ (b9 _ _ o! (ch _ _ (bI _ _ (dj _ _ (dx _ _ jY)))))))))) (dN _ _ o! (fF _ _ (dM _ _ o! (fQ _ _ (fE.a _ _ (b9 _ _ o! (ch _ _ (bI _ _ (dj _ _ jl))))))))) trivial (dN _ _ o! (fF _ _ (dM _ _ o! (fQ _ _ (fE.a _ _ nY))))) za
         have WD:aD.ok NU (aN (IntKind.i64.wrap (ready+(bp 100001 (fun y=>br y t (aM l_ worker) ready worker ab ae ((ax t ab ae).1))))) worker ab ae ((ax t ab ae).1)):=bf
         obtain ⟨FR,Lx,y7,Lf,y8,zb⟩:=cj za (aH.cells [(AV.str []),(AV.int .i64 0),(AV.int .i64 0),(AV.int .i64 0),(AV.int .i64 0)] 37 false)
         have y9:Has h FR:=D9.trans zb
         have vH:Has wN FR:=oY.trans zb
         obtain ⟨D_,Ly,rB,Hk,su,te⟩:=dW (t:=37) (n:=5) (i:=NU.nx) (L:=[(AV.str ((aN (IntKind.i64.wrap (ready+(bp 100001 (fun y=>br y t (aM l_ worker) ready worker ab ae ((ax t ab ae).1))))) worker ab ae ((ax t ab ae).1)).worker)),(AV.int .i64 ((aN (IntKind.i64.wrap (ready+(bp 100001 (fun y=>br y t (aM l_ worker) ready worker ab ae ((ax t ab ae).1))))) worker ab ae ((ax t ab ae).1)).ab)),(AV.int .i64 ((aN (IntKind.i64.wrap (ready+(bp 100001 (fun y=>br y t (aM l_ worker) ready worker ab ae ((ax t ab ae).1))))) worker ab ae ((ax t ab ae).1)).aP)),(AV.int .i64 ((aN (IntKind.i64.wrap (ready+(bp 100001 (fun y=>br y t (aM l_ worker) ready worker ab ae ((ax t ab ae).1))))) worker ab ae ((ax t ab ae).1)).leave)),(AV.int .i64 ((aN (IntKind.i64.wrap (ready+(bp 100001 (fun y=>br y t (aM l_ worker) ready worker ab ae ((ax t ab ae).1))))) worker ab ae ((ax t ab ae).1)).out))]) y7 y8 k! rfl rfl (by simp only[AV.cells,List.all_cons,List.all_nil,Bool.and_true,Bool.and_self,bP,bB,bQ,bR,bl,cm,cn,cq,cr,ct,bS])
         have uI:Has h D_:=Has.aU y9 te b4 o!
         have IA:Has wN D_:=Has.aU vH te rl o!
         have SV:=aZ (d:=d+10) ((aN (IntKind.i64.wrap (ready+(bp 100001 (fun y=>br y t (aM l_ worker) ready worker ab ae ((ax t ab ae).1))))) worker ab ae ((ax t ab ae).1)).out) rB
         obtain ⟨OZ,D',O0,O1,Ea,zc⟩:=dW (t:=37) (n:=5) (i:=h5.nx) (L:=[(AV.str ((aN (IntKind.i64.wrap (ready+(bp 100001 (fun y=>br y t (aM l_ worker) ready worker ab ae ((ax t ab ae).1))))) worker ab ae ((ax t ab ae).1)).worker)),(AV.int .i64 ((aN (IntKind.i64.wrap (ready+(bp 100001 (fun y=>br y t (aM l_ worker) ready worker ab ae ((ax t ab ae).1))))) worker ab ae ((ax t ab ae).1)).ab)),(AV.int .i64 ((aN (IntKind.i64.wrap (ready+(bp 100001 (fun y=>br y t (aM l_ worker) ready worker ab ae ((ax t ab ae).1))))) worker ab ae ((ax t ab ae).1)).aP)),(AV.int .i64 ((aN (IntKind.i64.wrap (ready+(bp 100001 (fun y=>br y t (aM l_ worker) ready worker ab ae ((ax t ab ae).1))))) worker ab ae ((ax t ab ae).1)).leave)),(AV.int .i64 ((aN (IntKind.i64.wrap (ready+(bp 100001 (fun y=>br y t (aM l_ worker) ready worker ab ae ((ax t ab ae).1))))) worker ab ae ((ax t ab ae).1)).out))]) rB (te _ _ o! (zb _ _ (dN _ _ o! (fF _ _ (dM _ _ o! (fQ _ _ (fE.a _ _ (b9 _ _ o! (ch _ _ gP))))))))) k! rfl rfl (by simp only[AV.cells,List.all_cons,List.all_nil,Bool.and_true,Bool.and_self,bP,bB,bQ,bR,bl,cm,cn,cq,cr,ct,bS])
         have Eb:Has h OZ:=Has.aU uI zc b4 o!
         have ev:=pk (d+12) jw ((AV.agg [t.ak,(AV.int .i64 t.rest),(AV.int .i64 t.day)])::bA::(AV.str worker)::(AV.int .i64 ab)::(AV.int .i64 ae)::(AV.int .i64 ready)::cz 64) h .ret OZ (NN bm (fun i=>(AV.ptr i 0))<|NN eX (fun i=>(AV.ptr i 0))<|NN pL (fun i=>(AV.ptr i 0))<|NN re (fun i=>(AV.ptr i 0))<|NN yZ (fun i=>(AV.ptr i 0))<|NN gO (fun i=>(AV.ptr i 0))<|CC<|MM (aw 24 0 (AV.agg [t.ak,(AV.int .i64 t.rest),(AV.int .i64 t.day)]) (bI _ _ (dj _ _ (dx _ _ (eH _ _ (b5 _ _ aE))))) k!)<|CC<|MM (aw 9 0 (AV.str worker) (bI _ _ (dj _ _ (dx _ _ (eH _ _ cM)))) k!)<|MM (aw 3 0 (AV.int .i64 ab) (bI _ _ (dj _ _ (dx _ _ jY))) k!)<|MM (aw 3 0 (AV.int .i64 ae) (bI _ _ (dj _ _ jl)) k!)<|MM (aw 3 0 (AV.int .i64 ready) (bI _ _ mz) k!)<|EE k7<|CN 2<|VV (cS 28 false true .i64 (bX t l_ worker ab ae ready) 0)<|BB f0<|MM (aw 24 0 (AV.agg [t.ak,(AV.int .i64 t.rest),(AV.int .i64 t.day)]) (bI _ _ (dj _ _ (dx _ _ (eH _ _ (b5 _ _ aE))))) k!)<|MM (aw 3 0 (AV.int .i64 ab) (bI _ _ (dj _ _ (dx _ _ jY))) k!)<|MM (aw 3 0 (AV.int .i64 ae) (bI _ _ (dj _ _ jl)) k!)<|EE k9<|CN 3<|NN oW (fun i=>(AV.ptr i 0))<|SS rf<|CN 3<|BB f1<|CC<|VV yO<|VV (dA 3 false true .i64 ((l_.length:Nat):Int) 0)<|BB f2<|CC<|MM (aw 9 0 (AV.str worker) (b9 _ _ o! (ch _ _ (bI _ _ (dj _ _ (dx _ _ (eH _ _ cM)))))) k!)<|EE Ls<|NN Lu (fun i=>(AV.ptr i 0))<|SS D6<|CC<|NN Lv (fun i=>(AV.ptr i 0))<|SS Lw<|MM (aw 3 0 (AV.int .i64 ready) (dN _ _ o! (fF _ _ (dM _ _ o! (fQ _ _ (fE.a _ _ (b9 _ _ o! (ch _ _ (bI _ _ mz)))))))) k!)<|CC<|EE KH<|CN 2<|HH (aw 3 0 (AV.int .i64 ready) (dN _ _ o! (fF _ _ (dM _ _ o! (fQ _ _ (fE.a _ _ (b9 _ _ o! (ch _ _ (bI _ _ mz)))))))) k!)<|HH (show AV.same 20 (AV.int .i64 ready) (AV.int .i64 ready)=true from aQ 19 _ _)<|HH (aw 3 0 (AV.int .i64 ready) (dN _ _ o! (fF _ _ (dM _ _ o! (fQ _ _ (fE.a _ _ (b9 _ _ o! (ch _ _ (bI _ _ mz)))))))) k!)<|HH (show AV.same 20 (AV.int .i64 ready) (AV.int .i64 ready)=true from aQ 19 _ _)<|MM (aw 89 0 (AV.func 34 [] [(AV.ptr h1.nx 0),(AV.ptr h2.nx 0),(AV.ptr h3.nx 0),(AV.ptr h6.nx 0)]) D8 k!)<|CC<|EE SU<|NN Lx (fun i=>(AV.ptr i 0))<|SS Ly<|CC<|MM (aw 3 4 (AV.int .i64 ((aN (IntKind.i64.wrap (ready+(bp 100001 (fun y=>br y t (aM l_ worker) ready worker ab ae ((ax t ab ae).1))))) worker ab ae ((ax t ab ae).1)).out)) su k!)<|EE SV<|BB f3<|MM (aw 37 0 (AV.agg [(AV.str ((aN (IntKind.i64.wrap (ready+(bp 100001 (fun y=>br y t (aM l_ worker) ready worker ab ae ((ax t ab ae).1))))) worker ab ae ((ax t ab ae).1)).worker)),(AV.int .i64 ((aN (IntKind.i64.wrap (ready+(bp 100001 (fun y=>br y t (aM l_ worker) ready worker ab ae ((ax t ab ae).1))))) worker ab ae ((ax t ab ae).1)).ab)),(AV.int .i64 ((aN (IntKind.i64.wrap (ready+(bp 100001 (fun y=>br y t (aM l_ worker) ready worker ab ae ((ax t ab ae).1))))) worker ab ae ((ax t ab ae).1)).aP)),(AV.int .i64 ((aN (IntKind.i64.wrap (ready+(bp 100001 (fun y=>br y t (aM l_ worker) ready worker ab ae ((ax t ab ae).1))))) worker ab ae ((ax t ab ae).1)).leave)),(AV.int .i64 ((aN (IntKind.i64.wrap (ready+(bp 100001 (fun y=>br y t (aM l_ worker) ready worker ab ae ((ax t ab ae).1))))) worker ab ae ((ax t ab ae).1)).out))]) su k!)<|SS D'<|CC<|ZZ) k!
         have e:bL t l_ worker ab ae ready=((aN (IntKind.i64.wrap (ready+(bp 100001 (fun y=>br y t (aM l_ worker) ready worker ab ae ((ax t ab ae).1))))) worker ab ae ((ax t ab ae).1)),0):=by simp only[bL,f0,f1,f2,f3,cond_true,cond_false]
         rw[e]
         exact az rfl (cK (a:=12) (r:=13) (t:=37) (i:=h5.nx) Tryz.func13 oV k! (.inr rfl) ev k! (dE Ea k!)) Eb rfl
       · obtain ⟨h1,bm,aL,cu,aE,bh⟩:=cj b4 (aH.cells [t.ak,(AV.int .i64 t.rest),(AV.int .i64 t.day)] 24 false)
         have aG:Has h h1:=bh
         obtain ⟨h2,eX,dH,lj,cM,b5⟩:=cj aL (aH.cells [(AV.str worker)] 9 false)
         have cB:Has h h2:=aG.trans b5
         obtain ⟨h3,pL,kA,BK,jY,eH⟩:=cj dH (aH.cells [(AV.int .i64 ab)] 3 false)
         have iA:Has h h3:=cB.trans eH
         obtain ⟨h4,re,eY,yA,jl,dx⟩:=cj kA (aH.cells [(AV.int .i64 ae)] 3 false)
         have gN:Has h h4:=iA.trans dx
         obtain ⟨h5,yZ,eB,La,mz,dj⟩:=cj eY (aH.cells [(AV.int .i64 ready)] 3 false)
         have ck:Has h h5:=gN.trans dj
         obtain ⟨h6,gO,eQ,nL,gP,bI⟩:=cj eB (aH.cells [(AV.str []),(AV.int .i64 0),(AV.int .i64 0),(AV.int .i64 0),(AV.int .i64 0)] 37 false)
         have ek:Has h h6:=ck.trans bI
         have k7:=iQ (d:=d+1) t l_ worker ab ae ready (aD.mono ek b8) (bE.has ek) bf eQ
         have k9:=jk (d:=d+9) t ab ae (aD.mono ek b8) eQ
         obtain ⟨nG,oW,j0,wx,ku,ch⟩:=cj eQ (aH.cells [(AV.int .i64 0),(AV.int .i64 0),(AV.int .i64 0)] 67 false)
         have gC:Has h nG:=ek.trans ch
         obtain ⟨rW,rf,nX,DF,nY,b9⟩:=dW (t:=67) (n:=3) (i:=h6.nx) (L:=[(AV.int .i64 (((ax t ab ae).1).ab)),(AV.int .i64 (((ax t ab ae).1).ae)),(AV.int .i64 (((ax t ab ae).1).out))]) j0 ku k! rfl rfl (by simp only[AV.cells,List.all_cons,List.all_nil,Bool.and_true,Bool.and_self,bP,bB,bQ,bR,bl,cm,cn,cq,cr,ct,bS])
         have l6:Has h rW:=Has.aU gC b9 b4 o!
         have yO:cJ (some (.slice 37)) (some bA)=some (AV.int .i64 ((l_.length:Nat):Int)):=bE.len
         obtain ⟨Iz,wN,Ls,fE,B4⟩:=ma (d:=d+11) l_ worker (bE.has l6) bf (by first | omega | assumption | (simp only[List.length_set,List.length_replicate,List.length_append,List.length_cons,List.length_nil,List.nil_append]<;>omega) | (rw[List.length_take];omega)) nX
         have rl:=fE.y
         have ON:rW.nx≤wN.nx:=fE.n
         have Lt:Has h wN:=l6.trans fE.a
         have QS:=B4.small
         obtain ⟨OW,Lu,Hj,OX,D4,fQ⟩:=cj rl (aH.cells [AV.aI] 25 false)
         have D5:Has h OW:=Lt.trans fQ
         have vE:Has wN OW:=fQ
         have WC:AV.scalar Iz=true:=B4.scalar
         obtain ⟨mJ,D6,iK,OY,D7,dM⟩:=NK (t:=25) (i:=wN.nx) (o:=0) (v:=Iz) (N:=[Iz]) Hj D4 k! B4.scalar k! k!
         have j4:Has h mJ:=Has.aU D5 dM b4 o!
         have vF:Has wN mJ:=Has.aU vE dM rl o!
         obtain ⟨Hd,Lv,uC,He,nB,fF⟩:=cj iK (aH.cells [AV.nilFunc] 89 false)
         have uD:Has h Hd:=j4.trans fF
         have vG:Has wN Hd:=vF.trans fF
         obtain ⟨NU,Lw,za,TE,D8,dN⟩:=Dx (t:=89) (n:=1) (i:=mJ.nx) (o:=0) (v:=(AV.func 34 [] [(AV.ptr h1.nx 0),(AV.ptr h2.nx 0),(AV.ptr h3.nx 0),(AV.ptr h6.nx 0)])) (N:=[(AV.func 34 [] [(AV.ptr h1.nx 0),(AV.ptr h2.nx 0),(AV.ptr h3.nx 0),(AV.ptr h6.nx 0)])]) uC nB k! rfl k! k! (by simp only[AV.cells,List.all_cons,List.all_nil,Bool.and_true,Bool.and_self,bP,bB,bQ,bR,bl,cm,cn,cq,cr,ct,bS,GR])
         have D9:Has h NU:=Has.aU uD dN b4 o!
         have oY:Has wN NU:=Has.aU vG dN rl o!
         have KH:=pV (d:=d+11) 100001 (fun y=>br y t (aM l_ worker) ready worker ab ae ((ax t ab ae).1)) (fun y hh yy aa=>rX (d:=d+4) y t h.nx (aM l_ worker) wN.nx mJ.nx ready h4.nx worker h1.nx ab h2.nx ae h3.nx ((ax t ab ae).1) h6.nx (aD.mono aa (aD.mono D9 b8)) (aa _ _ (dN _ _ o! (fF _ _ (dM _ _ o! (fQ _ _ (fE.a _ _ (b9 _ _ o! (ch _ _ (bI _ _ (dj _ _ (dx _ _ (eH _ _ (b5 _ _ aE))))))))))))) ((B4.has oY).has aa) (aa _ _ (dN _ _ o! (fF _ _ D7))) (aa _ _ D8) (aa _ _ (dN _ _ o! (fF _ _ (dM _ _ o! (fQ _ _ (fE.a _ _ (b9 _ _ o! (ch _ _ (bI _ _ mz))))))))) bf (aa _ _ (dN _ _ o! (fF _ _ (dM _ _ o! (fQ _ _ (fE.a _ _ (b9 _ _ o! (ch _ _ (bI _ _ (dj _ _ (dx _ _ (eH _ _ cM)))))))))))) (aa _ _ (dN _ _ o! (fF _ _ (dM _ _ o! (fQ _ _ (fE.a _ _ (b9 _ _ o! (ch _ _ (bI _ _ (dj _ _ (dx _ _ jY))))))))))) (aa _ _ (dN _ _ o! (fF _ _ (dM _ _ o! (fQ _ _ (fE.a _ _ (b9 _ _ o! (ch _ _ (bI _ _ (dj _ _ jl)))))))))) (aD.mono aa trivial) (aa _ _ (dN _ _ o! (fF _ _ (dM _ _ o! (fQ _ _ (fE.a _ _ nY)))))) yy) (by first | omega | assumption | (simp only[List.length_set,List.length_replicate,List.length_append,List.length_cons,List.length_nil,List.nil_append]<;>omega) | (rw[List.length_take];omega)) (by first | omega | assumption | (simp only[List.length_set,List.length_replicate,List.length_append,List.length_cons,List.length_nil,List.nil_append]<;>omega) | (rw[List.length_take];omega)) za
         have SU:=oU (d:=d+11) (IntKind.i64.wrap (ready+(bp 100001 (fun y=>br y t (aM l_ worker) ready worker ab ae ((ax t ab ae).1))))) worker h1.nx ab h2.nx ae h3.nx ((ax t ab ae).1) h6.nx bf (dN _ _ o! (fF _ _ (dM _ _ o! (fQ _ _ (fE.a _ _ (b9 _ _ o! (ch _ _ (bI _ _ (dj _ _ (dx _ _ (eH _ _ cM))))))))))) (dN _ _ o! (fF _ _ (dM _ _ o! (fQ _ _ (fE.a _ _ (b9 _ _ o! (ch _ _ (bI _ _ (dj _ _ (dx _ _ jY)))))))))) (dN _ _ o! (fF _ _ (dM _ _ o! (fQ _ _ (fE.a _ _ (b9 _ _ o! (ch _ _ (bI _ _ (dj _ _ jl))))))))) trivial (dN _ _ o! (fF _ _ (dM _ _ o! (fQ _ _ (fE.a _ _ nY))))) za
         have WD:aD.ok NU (aN (IntKind.i64.wrap (ready+(bp 100001 (fun y=>br y t (aM l_ worker) ready worker ab ae ((ax t ab ae).1))))) worker ab ae ((ax t ab ae).1)):=bf
         obtain ⟨FR,Lx,y7,Lf,y8,zb⟩:=cj za (aH.cells [(AV.str []),(AV.int .i64 0),(AV.int .i64 0),(AV.int .i64 0),(AV.int .i64 0)] 37 false)
         have y9:Has h FR:=D9.trans zb
         have vH:Has wN FR:=oY.trans zb
         obtain ⟨D_,Ly,rB,Hk,su,te⟩:=dW (t:=37) (n:=5) (i:=NU.nx) (L:=[(AV.str ((aN (IntKind.i64.wrap (ready+(bp 100001 (fun y=>br y t (aM l_ worker) ready worker ab ae ((ax t ab ae).1))))) worker ab ae ((ax t ab ae).1)).worker)),(AV.int .i64 ((aN (IntKind.i64.wrap (ready+(bp 100001 (fun y=>br y t (aM l_ worker) ready worker ab ae ((ax t ab ae).1))))) worker ab ae ((ax t ab ae).1)).ab)),(AV.int .i64 ((aN (IntKind.i64.wrap (ready+(bp 100001 (fun y=>br y t (aM l_ worker) ready worker ab ae ((ax t ab ae).1))))) worker ab ae ((ax t ab ae).1)).aP)),(AV.int .i64 ((aN (IntKind.i64.wrap (ready+(bp 100001 (fun y=>br y t (aM l_ worker) ready worker ab ae ((ax t ab ae).1))))) worker ab ae ((ax t ab ae).1)).leave)),(AV.int .i64 ((aN (IntKind.i64.wrap (ready+(bp 100001 (fun y=>br y t (aM l_ worker) ready worker ab ae ((ax t ab ae).1))))) worker ab ae ((ax t ab ae).1)).out))]) y7 y8 k! rfl rfl (by simp only[AV.cells,List.all_cons,List.all_nil,Bool.and_true,Bool.and_self,bP,bB,bQ,bR,bl,cm,cn,cq,cr,ct,bS])
         have uI:Has h D_:=Has.aU y9 te b4 o!
         have IA:Has wN D_:=Has.aU vH te rl o!
         have SV:=aZ (d:=d+10) ((aN (IntKind.i64.wrap (ready+(bp 100001 (fun y=>br y t (aM l_ worker) ready worker ab ae ((ax t ab ae).1))))) worker ab ae ((ax t ab ae).1)).out) rB
         obtain ⟨OZ,D',O0,O1,Ea,zc⟩:=dW (t:=37) (n:=5) (i:=h5.nx) (L:=[(AV.str []),(AV.int .i64 0),(AV.int .i64 0),(AV.int .i64 0),(AV.int .i64 0)]) rB (te _ _ o! (zb _ _ (dN _ _ o! (fF _ _ (dM _ _ o! (fQ _ _ (fE.a _ _ (b9 _ _ o! (ch _ _ gP))))))))) k! rfl rfl (by simp only[AV.cells,List.all_cons,List.all_nil,Bool.and_true,Bool.and_self,bP,bB,bQ,bR,bl,cm,cn,cq,cr,ct,bS])
         have Eb:Has h OZ:=Has.aU uI zc b4 o!
         have ev:=pk (d+12) jw ((AV.agg [t.ak,(AV.int .i64 t.rest),(AV.int .i64 t.day)])::bA::(AV.str worker)::(AV.int .i64 ab)::(AV.int .i64 ae)::(AV.int .i64 ready)::cz 64) h .ret OZ (NN bm (fun i=>(AV.ptr i 0))<|NN eX (fun i=>(AV.ptr i 0))<|NN pL (fun i=>(AV.ptr i 0))<|NN re (fun i=>(AV.ptr i 0))<|NN yZ (fun i=>(AV.ptr i 0))<|NN gO (fun i=>(AV.ptr i 0))<|CC<|MM (aw 24 0 (AV.agg [t.ak,(AV.int .i64 t.rest),(AV.int .i64 t.day)]) (bI _ _ (dj _ _ (dx _ _ (eH _ _ (b5 _ _ aE))))) k!)<|CC<|MM (aw 9 0 (AV.str worker) (bI _ _ (dj _ _ (dx _ _ (eH _ _ cM)))) k!)<|MM (aw 3 0 (AV.int .i64 ab) (bI _ _ (dj _ _ (dx _ _ jY))) k!)<|MM (aw 3 0 (AV.int .i64 ae) (bI _ _ (dj _ _ jl)) k!)<|MM (aw 3 0 (AV.int .i64 ready) (bI _ _ mz) k!)<|EE k7<|CN 2<|VV (cS 28 false true .i64 (bX t l_ worker ab ae ready) 0)<|BB f0<|MM (aw 24 0 (AV.agg [t.ak,(AV.int .i64 t.rest),(AV.int .i64 t.day)]) (bI _ _ (dj _ _ (dx _ _ (eH _ _ (b5 _ _ aE))))) k!)<|MM (aw 3 0 (AV.int .i64 ab) (bI _ _ (dj _ _ (dx _ _ jY))) k!)<|MM (aw 3 0 (AV.int .i64 ae) (bI _ _ (dj _ _ jl)) k!)<|EE k9<|CN 3<|NN oW (fun i=>(AV.ptr i 0))<|SS rf<|CN 3<|BB f1<|CC<|VV yO<|VV (dA 3 false true .i64 ((l_.length:Nat):Int) 0)<|BB f2<|CC<|MM (aw 9 0 (AV.str worker) (b9 _ _ o! (ch _ _ (bI _ _ (dj _ _ (dx _ _ (eH _ _ cM)))))) k!)<|EE Ls<|NN Lu (fun i=>(AV.ptr i 0))<|SS D6<|CC<|NN Lv (fun i=>(AV.ptr i 0))<|SS Lw<|MM (aw 3 0 (AV.int .i64 ready) (dN _ _ o! (fF _ _ (dM _ _ o! (fQ _ _ (fE.a _ _ (b9 _ _ o! (ch _ _ (bI _ _ mz)))))))) k!)<|CC<|EE KH<|CN 2<|HH (aw 3 0 (AV.int .i64 ready) (dN _ _ o! (fF _ _ (dM _ _ o! (fQ _ _ (fE.a _ _ (b9 _ _ o! (ch _ _ (bI _ _ mz)))))))) k!)<|HH (show AV.same 20 (AV.int .i64 ready) (AV.int .i64 ready)=true from aQ 19 _ _)<|HH (aw 3 0 (AV.int .i64 ready) (dN _ _ o! (fF _ _ (dM _ _ o! (fQ _ _ (fE.a _ _ (b9 _ _ o! (ch _ _ (bI _ _ mz)))))))) k!)<|HH (show AV.same 20 (AV.int .i64 ready) (AV.int .i64 ready)=true from aQ 19 _ _)<|MM (aw 89 0 (AV.func 34 [] [(AV.ptr h1.nx 0),(AV.ptr h2.nx 0),(AV.ptr h3.nx 0),(AV.ptr h6.nx 0)]) D8 k!)<|CC<|EE SU<|NN Lx (fun i=>(AV.ptr i 0))<|SS Ly<|CC<|MM (aw 3 4 (AV.int .i64 ((aN (IntKind.i64.wrap (ready+(bp 100001 (fun y=>br y t (aM l_ worker) ready worker ab ae ((ax t ab ae).1))))) worker ab ae ((ax t ab ae).1)).out)) su k!)<|EE SV<|BB f3<|CC<|SS D'<|CC<|ZZ) k!
         have e:bL t l_ worker ab ae ready=((⟨[],0,0,0,0⟩:aO),9):=by simp only[bL,f0,f1,f2,f3,cond_true,cond_false]
         rw[e]
         exact az rfl (cK (a:=12) (r:=13) (t:=37) (i:=h5.nx) Tryz.func13 oV k! (.inr rfl) ev k! (dE Ea k!)) Eb rfl
end Go.Proofs.bt
