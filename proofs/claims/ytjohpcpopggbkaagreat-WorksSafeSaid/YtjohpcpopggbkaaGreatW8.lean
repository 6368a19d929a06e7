import Derived.Test.YtjohpcpopggbkaaGreatW0
import Derived.Test.YtjohpcpopggbkaaGreatW7
import Derived.Test.YtjohpcpopggbkaaGreatW4
import Derived.Test.YtjohpcpopggbkaaGreatW2
import Derived.Test.YtjohpcpopggbkaaGreatW1
import Derived.Test.YtjohpcpopggbkaaGreatW3
namespace Go.Proofs.aW
open Go.Proofs Ab
set_option maxRecDepth 100000
set_option maxHeartbeats 4000000
set_option linter.unusedVariables false
set_option linter.unusedSimpArgs false
noncomputable def hS:Code:=(Tryz.f7.body).getD .skip
theorem ny:Tryz.f7.body=some hS:=by kernel_rfl
def af (t:aH) (l_:List aw) (worker:List UInt8) (ab:Int) (ae:Int) (ready:Int):aw×Int:=(bif (!decide ((bx t l_ worker ab ae ready)=0)) then ((⟨[],0,0,0,0⟩:aw),(bx t l_ worker ab ae ready)) else (bif (!((aA t ab ae).2)) then ((⟨[],0,0,0,0⟩:aw),7) else (bif (decide (0<((l_.length:Nat):Int))) then (bif (bq ((aN (IntKind.i64.wrap ((imax ready ((l_.g (l_.length - 1)).aD))+(bj 100001 (fun y=>bp y t (aR l_ worker) (imax ready ((l_.g (l_.length - 1)).aD)) worker ab ae ((aA t ab ae).1))))) worker ab ae ((aA t ab ae).1)).out)) then ((aN (IntKind.i64.wrap ((imax ready ((l_.g (l_.length - 1)).aD))+(bj 100001 (fun y=>bp y t (aR l_ worker) (imax ready ((l_.g (l_.length - 1)).aD)) worker ab ae ((aA t ab ae).1))))) worker ab ae ((aA t ab ae).1)),0) else ((⟨[],0,0,0,0⟩:aw),9)) else (bif (bq ((aN (IntKind.i64.wrap (ready+(bj 100001 (fun y=>bp y t (aR l_ worker) ready worker ab ae ((aA t ab ae).1))))) worker ab ae ((aA t ab ae).1)).out)) then ((aN (IntKind.i64.wrap (ready+(bj 100001 (fun y=>bp y t (aR l_ worker) ready worker ab ae ((aA t ab ae).1))))) worker ab ae ((aA t ab ae).1)),0) else ((⟨[],0,0,0,0⟩:aw),9)))))
theorem JA {d:Nat} {h:aq} {bk:AV} (t:aH) (l_:List aw) (worker:List UInt8) (ab:Int) (ae:Int) (ready:Int) (g6:aG.ok h t) (cR:bf h bk l_) (cA:worker.length<2^60) (di:Tidy h):dH (d+13) (.fn 7) [(AV.agg [t.ar,(AV.int .i64 t.rest),(AV.int .i64 t.day)]),bk,(AV.str worker),(AV.int .i64 ab),(AV.int .i64 ae),(AV.int .i64 ready)] h= .ret (AV.tuple [(AV.agg [(AV.str (((af t l_ worker ab ae ready).1).worker)),(AV.int .i64 (((af t l_ worker ab ae ready).1).ab)),(AV.int .i64 (((af t l_ worker ab ae ready).1).aD)),(AV.int .i64 (((af t l_ worker ab ae ready).1).leave)),(AV.int .i64 (((af t l_ worker ab ae ready).1).out))]),(AV.int .i64 ((af t l_ worker ab ae ready).2))]) h:=by
 have pH:=cR.small
 obtain ⟨h1,bJ,cK,lD,aO,dI⟩:=jA di (aP.cells [t.ar,(AV.int .i64 t.rest),(AV.int .i64 t.day)] 24 false)
 have bR:Has h h1:=dI
 obtain ⟨h2,nt,rf,I6,ic,fW⟩:=jA cK (aP.cells [(AV.str worker)] 9 false)
 have lE:Has h h2:=bR.trans fW
 obtain ⟨h3,tH,ql,Pa,mR,gn⟩:=jA rf (aP.cells [(AV.int .i64 ab)] 3 false)
 have kY:Has h h3:=lE.trans gn
 obtain ⟨h4,wC,qm,I7,kZ,eh⟩:=jA ql (aP.cells [(AV.int .i64 ae)] 3 false)
 have lf:Has h h4:=kY.trans eh
 obtain ⟨h5,Gh,lG,Zp,oM,dD⟩:=jA qm (aP.cells [(AV.int .i64 ready)] 3 false)
 have ie:Has h h5:=lf.trans dD
 obtain ⟨h6,jI,oK,F3,oL,bQ⟩:=jA lG (aP.cells [(AV.str []),(AV.int .i64 0),(AV.int .i64 0),(AV.int .i64 0),(AV.int .i64 0)] 34 false)
 have oc:Has h h6:=ie.trans bQ
 have k7:=xY (d:=d+1) t l_ worker ab ae ready (aG.mono oc g6) (cR.has oc) cA oK
 rcases Bool.eq_false_or_eq_true (!decide ((bx t l_ worker ab ae ready)=0)) with f0 | f0
 · have dY:=qZ f0
   obtain ⟨h9,xZ,jW,Pl,gq,pK⟩:=lC (t:=34) (n:=5) (i:=h5.nx) (L:=[(AV.str []),(AV.int .i64 0),(AV.int .i64 0),(AV.int .i64 0),(AV.int .i64 0)]) oK oL k! rfl rfl (by simp only[AV.cells,List.all_cons,List.all_nil,Bool.and_true,Bool.and_self,dL,cO,dM,dN,cu,fQ,fR,fS,fT,fU,dO])
   have jn:Has h h9:=Has.ca oc pK di o!
   have ev:=pk (d+12) hS ((AV.agg [t.ar,(AV.int .i64 t.rest),(AV.int .i64 t.day)])::bk::(AV.str worker)::(AV.int .i64 ab)::(AV.int .i64 ae)::(AV.int .i64 ready)::cx 64) h .ret h9 (NN bJ (fun i=>(AV.ptr i 0))<|NN nt (fun i=>(AV.ptr i 0))<|NN tH (fun i=>(AV.ptr i 0))<|NN wC (fun i=>(AV.ptr i 0))<|NN Gh (fun i=>(AV.ptr i 0))<|NN jI (fun i=>(AV.ptr i 0))<|CC<|MM (au 24 0 (AV.agg [t.ar,(AV.int .i64 t.rest),(AV.int .i64 t.day)]) (bQ _ _ (dD _ _ (eh _ _ (gn _ _ (fW _ _ aO))))) k!)<|CC<|MM (au 9 0 (AV.str worker) (bQ _ _ (dD _ _ (eh _ _ (gn _ _ ic)))) k!)<|MM (au 3 0 (AV.int .i64 ab) (bQ _ _ (dD _ _ (eh _ _ mR))) k!)<|MM (au 3 0 (AV.int .i64 ae) (bQ _ _ (dD _ _ kZ)) k!)<|MM (au 3 0 (AV.int .i64 ready) (bQ _ _ oM) k!)<|EE k7<|CN 2<|VV (cJ 30 false true .i64 (bx t l_ worker ab ae ready) 0)<|BB f0<|CN 2<|SS xZ<|CC<|ZZ) k!
   have e:af t l_ worker ab ae ready=((⟨[],0,0,0,0⟩:aw),(bx t l_ worker ab ae ready)):=by simp only[af,f0,cond_true,cond_false]
   rw[e]
   exact ay rfl (fv (a:=12) (r:=13) (t:=34) (i:=h5.nx) Tryz.func7 ny k! (.inr rfl) ev k! (hG gq k!)) jn rfl
 · have dY:=ra f0
   have T':=uV dY
   have k9:=re (d:=d+9) t ab ae (aG.mono oc g6) oK
   obtain ⟨yS,Cl,uy,Sn,Js,dS⟩:=jA oK (aP.cells [(AV.int .i64 0),(AV.int .i64 0),(AV.int .i64 0)] 29 false)
   have uB:Has h yS:=oc.trans dS
   obtain ⟨Qm,wD,EH,R0,yO,cE⟩:=lC (t:=29) (n:=3) (i:=h6.nx) (L:=[(AV.int .i64 (((aA t ab ae).1).ab)),(AV.int .i64 (((aA t ab ae).1).ae)),(AV.int .i64 (((aA t ab ae).1).out))]) uy Js k! rfl rfl (by simp only[AV.cells,List.all_cons,List.all_nil,Bool.and_true,Bool.and_self,dL,cO,dM,dN,cu,fQ,fR,fS,fT,fU,dO])
   have wE:Has h Qm:=Has.ca uB cE di o!
   rcases Bool.eq_false_or_eq_true (!((aA t ab ae).2)) with f1 | f1
   · obtain ⟨il,pP,sw,Sr,bT,gT⟩:=lC (t:=34) (n:=5) (i:=h5.nx) (L:=[(AV.str []),(AV.int .i64 0),(AV.int .i64 0),(AV.int .i64 0),(AV.int .i64 0)]) EH (cE _ _ o! (dS _ _ oL)) k! rfl rfl (by simp only[AV.cells,List.all_cons,List.all_nil,Bool.and_true,Bool.and_self,dL,cO,dM,dN,cu,fQ,fR,fS,fT,fU,dO])
     have qD:Has h il:=Has.ca wE gT di o!
     have ev:=pk (d+12) hS ((AV.agg [t.ar,(AV.int .i64 t.rest),(AV.int .i64 t.day)])::bk::(AV.str worker)::(AV.int .i64 ab)::(AV.int .i64 ae)::(AV.int .i64 ready)::cx 64) h .ret il (NN bJ (fun i=>(AV.ptr i 0))<|NN nt (fun i=>(AV.ptr i 0))<|NN tH (fun i=>(AV.ptr i 0))<|NN wC (fun i=>(AV.ptr i 0))<|NN Gh (fun i=>(AV.ptr i 0))<|NN jI (fun i=>(AV.ptr i 0))<|CC<|MM (au 24 0 (AV.agg [t.ar,(AV.int .i64 t.rest),(AV.int .i64 t.day)]) (bQ _ _ (dD _ _ (eh _ _ (gn _ _ (fW _ _ aO))))) k!)<|CC<|MM (au 9 0 (AV.str worker) (bQ _ _ (dD _ _ (eh _ _ (gn _ _ ic)))) k!)<|MM (au 3 0 (AV.int .i64 ab) (bQ _ _ (dD _ _ (eh _ _ mR))) k!)<|MM (au 3 0 (AV.int .i64 ae) (bQ _ _ (dD _ _ kZ)) k!)<|MM (au 3 0 (AV.int .i64 ready) (bQ _ _ oM) k!)<|EE k7<|CN 2<|VV (cJ 30 false true .i64 (bx t l_ worker ab ae ready) 0)<|BB f0<|MM (au 24 0 (AV.agg [t.ar,(AV.int .i64 t.rest),(AV.int .i64 t.day)]) (bQ _ _ (dD _ _ (eh _ _ (gn _ _ (fW _ _ aO))))) k!)<|MM (au 3 0 (AV.int .i64 ab) (bQ _ _ (dD _ _ (eh _ _ mR))) k!)<|MM (au 3 0 (AV.int .i64 ae) (bQ _ _ (dD _ _ kZ)) k!)<|EE k9<|CN 3<|NN Cl (fun i=>(AV.ptr i 0))<|SS wD<|CN 3<|BB f1<|CC<|SS pP<|CC<|ZZ) k!
     have e:af t l_ worker ab ae ready=((⟨[],0,0,0,0⟩:aw),7):=by simp only[af,f0,f1,cond_true,cond_false]
     rw[e]
     exact ay rfl (fv (a:=12) (r:=13) (t:=34) (i:=h5.nx) Tryz.func7 ny k! (.inr rfl) ev k! (hG bT k!)) qD rfl
   · have Cf:dU (some (.slice 34)) (some bk)=some (AV.int .i64 ((l_.length:Nat):Int)):=cR.len
     rcases Bool.eq_false_or_eq_true (decide (0<((l_.length:Nat):Int))) with f2 | f2
     · have lh:=of_decide_eq_true f2
       have Ss:dU (some (.slice 34)) (some bk)=some (AV.int .i64 ((l_.length:Nat):Int)):=cR.len
       have u16:=IZ 3 false true l_.length 1 o! o!
       obtain ⟨Xm,Xn,Np⟩:=cR.elem (i:=(l_.length - 1)) o!
       have Su:ep env (some (.slice 34)) (some bk) (some (AV.int .i64 ((l_.length - 1:Nat):Int)))=some (AV.ptr Xm Xn):=Np
       have Mc:b9 env Qm 3 (AV.ptr Xm (Xn+2))=some (AV.int .i64 ((l_.g (l_.length - 1)).aD)):=(cR.has wE).part (t:=3) (j:=2) o! Np k! rfl
       obtain ⟨Sv,Nq,JB,Sw,sK,jS⟩:=I0 (t:=3) (n:=1) (i:=h4.nx) (o:=0) (v:=(AV.int .i64 (imax ready ((l_.g (l_.length - 1)).aD)))) (N:=[(AV.int .i64 (imax ready ((l_.g (l_.length - 1)).aD)))]) EH (cE _ _ o! (dS _ _ (bQ _ _ oM))) k! rfl k! k! (by simp only[AV.cells,List.all_cons,List.all_nil,Bool.and_true,Bool.and_self,dL,cO,dM,dN,cu,fQ,fR,fS,fT,fU,dO])
       have EU:Has h Sv:=Has.ca wE jS di o!
       obtain ⟨V3,GM,Nr,iN,Md⟩:=pI (d:=d+11) l_ worker (cR.has EU) cA (by first | omega | assumption | (simp only[List.length_set,List.length_replicate,List.length_append,List.length_cons,List.length_nil,List.nil_append]<;>omega) | (rw[List.length_take];omega)) JB
       have EV:=iN.y
       have Xo:Sv.nx≤GM.nx:=iN.n
       have Sx:Has h GM:=EU.trans iN.a
       have V4:=Md.small
       obtain ⟨Xp,Ns,Sy,Xq,Sz,ji⟩:=jA EV (aP.cells [AV.aF] 25 false)
       have SA:Has h Xp:=Sx.trans ji
       have Gi:Has GM Xp:=ji
       have Zq:AV.scalar V3=true:=Md.scalar
       obtain ⟨qg,Nt,y8,SB,JC,fX⟩:=RX (t:=25) (i:=GM.nx) (o:=0) (v:=V3) (N:=[V3]) Sy Sz k! Md.scalar k! k!
       have nA:Has h qg:=Has.ca SA fX di o!
       have Gj:Has GM qg:=Has.ca Gi fX EV o!
       obtain ⟨Xr,Nu,SC,Xs,SD,iO⟩:=jA y8 (aP.cells [AV.nilFunc] 79 false)
       have SE:Has h Xr:=nA.trans iO
       have Gk:Has GM Xr:=Gj.trans iO
       obtain ⟨Ua,Nv,JD,Xt,JE,fI⟩:=I0 (t:=79) (n:=1) (i:=qg.nx) (o:=0) (v:=(AV.func 22 [] [(AV.ptr h1.nx 0),(AV.ptr h2.nx 0),(AV.ptr h3.nx 0),(AV.ptr h6.nx 0)])) (N:=[(AV.func 22 [] [(AV.ptr h1.nx 0),(AV.ptr h2.nx 0),(AV.ptr h3.nx 0),(AV.ptr h6.nx 0)])]) SC SD k! rfl k! k! (by simp only[AV.cells,List.all_cons,List.all_nil,Bool.and_true,Bool.and_self,dL,cO,dM,dN,cu,fQ,fR,fS,fT,fU,dO,M7])
       have Nw:Has h Ua:=Has.ca SE fI di o!
       have y9:Has GM Ua:=Has.ca Gk fI EV o!
       have T0:=xk (d:=d+11) 100001 (fun y=>bp y t (aR l_ worker) (imax ready ((l_.g (l_.length - 1)).aD)) worker ab ae ((aA t ab ae).1)) (fun y hh yy aa=>y7 (d:=d+4) y t h.nx (aR l_ worker) GM.nx qg.nx (imax ready ((l_.g (l_.length - 1)).aD)) h4.nx worker h1.nx ab h2.nx ae h3.nx ((aA t ab ae).1) h6.nx (aG.mono aa (aG.mono Nw g6)) (aa _ _ (fI _ _ o! (iO _ _ (fX _ _ o! (ji _ _ (iN.a _ _ (jS _ _ o! (cE _ _ o! (dS _ _ (bQ _ _ (dD _ _ (eh _ _ (gn _ _ (fW _ _ aO)))))))))))))) ((Md.has y9).has aa) (aa _ _ (fI _ _ o! (iO _ _ JC))) (aa _ _ JE) (aa _ _ (fI _ _ o! (iO _ _ (fX _ _ o! (ji _ _ (iN.a _ _ sK)))))) cA (aa _ _ (fI _ _ o! (iO _ _ (fX _ _ o! (ji _ _ (iN.a _ _ (jS _ _ o! (cE _ _ o! (dS _ _ (bQ _ _ (dD _ _ (eh _ _ (gn _ _ ic))))))))))))) (aa _ _ (fI _ _ o! (iO _ _ (fX _ _ o! (ji _ _ (iN.a _ _ (jS _ _ o! (cE _ _ o! (dS _ _ (bQ _ _ (dD _ _ (eh _ _ mR)))))))))))) (aa _ _ (fI _ _ o! (iO _ _ (fX _ _ o! (ji _ _ (iN.a _ _ (jS _ _ o! (cE _ _ o! (dS _ _ (bQ _ _ (dD _ _ kZ))))))))))) (aG.mono aa trivial) (aa _ _ (fI _ _ o! (iO _ _ (fX _ _ o! (ji _ _ (iN.a _ _ (jS _ _ o! yO))))))) yy) (by first | omega | assumption | (simp only[List.length_set,List.length_replicate,List.length_append,List.length_cons,List.length_nil,List.nil_append]<;>omega) | (rw[List.length_take];omega)) (by first | omega | assumption | (simp only[List.length_set,List.length_replicate,List.length_append,List.length_cons,List.length_nil,List.nil_append]<;>omega) | (rw[List.length_take];omega)) JD
       have T1:=tP (d:=d+11) (IntKind.i64.wrap ((imax ready ((l_.g (l_.length - 1)).aD))+(bj 100001 (fun y=>bp y t (aR l_ worker) (imax ready ((l_.g (l_.length - 1)).aD)) worker ab ae ((aA t ab ae).1))))) worker h1.nx ab h2.nx ae h3.nx ((aA t ab ae).1) h6.nx cA (fI _ _ o! (iO _ _ (fX _ _ o! (ji _ _ (iN.a _ _ (jS _ _ o! (cE _ _ o! (dS _ _ (bQ _ _ (dD _ _ (eh _ _ (gn _ _ ic)))))))))))) (fI _ _ o! (iO _ _ (fX _ _ o! (ji _ _ (iN.a _ _ (jS _ _ o! (cE _ _ o! (dS _ _ (bQ _ _ (dD _ _ (eh _ _ mR))))))))))) (fI _ _ o! (iO _ _ (fX _ _ o! (ji _ _ (iN.a _ _ (jS _ _ o! (cE _ _ o! (dS _ _ (bQ _ _ (dD _ _ kZ)))))))))) trivial (fI _ _ o! (iO _ _ (fX _ _ o! (ji _ _ (iN.a _ _ (jS _ _ o! yO)))))) JD
       have Zr:aG.ok Ua (aN (IntKind.i64.wrap ((imax ready ((l_.g (l_.length - 1)).aD))+(bj 100001 (fun y=>bp y t (aR l_ worker) (imax ready ((l_.g (l_.length - 1)).aD)) worker ab ae ((aA t ab ae).1))))) worker ab ae ((aA t ab ae).1)):=cA
       obtain ⟨Xu,Nx,SF,Xv,SG,EW⟩:=jA JD (aP.cells [(AV.str []),(AV.int .i64 0),(AV.int .i64 0),(AV.int .i64 0),(AV.int .i64 0)] 34 false)
       have SH:Has h Xu:=Nw.trans EW
       have Gl:Has GM Xu:=y9.trans EW
       obtain ⟨Xw,Ny,JF,Xx,JG,Ax⟩:=lC (t:=34) (n:=5) (i:=Ua.nx) (L:=[(AV.str ((aN (IntKind.i64.wrap ((imax ready ((l_.g (l_.length - 1)).aD))+(bj 100001 (fun y=>bp y t (aR l_ worker) (imax ready ((l_.g (l_.length - 1)).aD)) worker ab ae ((aA t ab ae).1))))) worker ab ae ((aA t ab ae).1)).worker)),(AV.int .i64 ((aN (IntKind.i64.wrap ((imax ready ((l_.g (l_.length - 1)).aD))+(bj 100001 (fun y=>bp y t (aR l_ worker) (imax ready ((l_.g (l_.length - 1)).aD)) worker ab ae ((aA t ab ae).1))))) worker ab ae ((aA t ab ae).1)).ab)),(AV.int .i64 ((aN (IntKind.i64.wrap ((imax ready ((l_.g (l_.length - 1)).aD))+(bj 100001 (fun y=>bp y t (aR l_ worker) (imax ready ((l_.g (l_.length - 1)).aD)) worker ab ae ((aA t ab ae).1))))) worker ab ae ((aA t ab ae).1)).aD)),(AV.int .i64 ((aN (IntKind.i64.wrap ((imax ready ((l_.g (l_.length - 1)).aD))+(bj 100001 (fun y=>bp y t (aR l_ worker) (imax ready ((l_.g (l_.length - 1)).aD)) worker ab ae ((aA t ab ae).1))))) worker ab ae ((aA t ab ae).1)).leave)),(AV.int .i64 ((aN (IntKind.i64.wrap ((imax ready ((l_.g (l_.length - 1)).aD))+(bj 100001 (fun y=>bp y t (aR l_ worker) (imax ready ((l_.g (l_.length - 1)).aD)) worker ab ae ((aA t ab ae).1))))) worker ab ae ((aA t ab ae).1)).out))]) SF SG k! rfl rfl (by simp only[AV.cells,List.all_cons,List.all_nil,Bool.and_true,Bool.and_self,dL,cO,dM,dN,cu,fQ,fR,fS,fT,fU,dO])
       have Nz:Has h Xw:=Has.ca SH Ax di o!
       have Qv:Has GM Xw:=Has.ca Gl Ax EV o!
       have Xy:=cW (d:=d+10) ((aN (IntKind.i64.wrap ((imax ready ((l_.g (l_.length - 1)).aD))+(bj 100001 (fun y=>bp y t (aR l_ worker) (imax ready ((l_.g (l_.length - 1)).aD)) worker ab ae ((aA t ab ae).1))))) worker ab ae ((aA t ab ae).1)).out) JF
       rcases Bool.eq_false_or_eq_true (bq ((aN (IntKind.i64.wrap ((imax ready ((l_.g (l_.length - 1)).aD))+(bj 100001 (fun y=>bp y t (aR l_ worker) (imax ready ((l_.g (l_.length - 1)).aD)) worker ab ae ((aA t ab ae).1))))) worker ab ae ((aA t ab ae).1)).out)) with f3 | f3
       · obtain ⟨SI,JH,SJ,SK,JI,DL⟩:=lC (t:=34) (n:=5) (i:=h5.nx) (L:=[(AV.str ((aN (IntKind.i64.wrap ((imax ready ((l_.g (l_.length - 1)).aD))+(bj 100001 (fun y=>bp y t (aR l_ worker) (imax ready ((l_.g (l_.length - 1)).aD)) worker ab ae ((aA t ab ae).1))))) worker ab ae ((aA t ab ae).1)).worker)),(AV.int .i64 ((aN (IntKind.i64.wrap ((imax ready ((l_.g (l_.length - 1)).aD))+(bj 100001 (fun y=>bp y t (aR l_ worker) (imax ready ((l_.g (l_.length - 1)).aD)) worker ab ae ((aA t ab ae).1))))) worker ab ae ((aA t ab ae).1)).ab)),(AV.int .i64 ((aN (IntKind.i64.wrap ((imax ready ((l_.g (l_.length - 1)).aD))+(bj 100001 (fun y=>bp y t (aR l_ worker) (imax ready ((l_.g (l_.length - 1)).aD)) worker ab ae ((aA t ab ae).1))))) worker ab ae ((aA t ab ae).1)).aD)),(AV.int .i64 ((aN (IntKind.i64.wrap ((imax ready ((l_.g (l_.length - 1)).aD))+(bj 100001 (fun y=>bp y t (aR l_ worker) (imax ready ((l_.g (l_.length - 1)).aD)) worker ab ae ((aA t ab ae).1))))) worker ab ae ((aA t ab ae).1)).leave)),(AV.int .i64 ((aN (IntKind.i64.wrap ((imax ready ((l_.g (l_.length - 1)).aD))+(bj 100001 (fun y=>bp y t (aR l_ worker) (imax ready ((l_.g (l_.length - 1)).aD)) worker ab ae ((aA t ab ae).1))))) worker ab ae ((aA t ab ae).1)).out))]) JF (Ax _ _ o! (EW _ _ (fI _ _ o! (iO _ _ (fX _ _ o! (ji _ _ (iN.a _ _ (jS _ _ o! (cE _ _ o! (dS _ _ oL)))))))))) k! rfl rfl (by simp only[AV.cells,List.all_cons,List.all_nil,Bool.and_true,Bool.and_self,dL,cO,dM,dN,cu,fQ,fR,fS,fT,fU,dO])
         have JJ:Has h SI:=Has.ca Nz DL di o!
         have ev:=pk (d+12) hS ((AV.agg [t.ar,(AV.int .i64 t.rest),(AV.int .i64 t.day)])::bk::(AV.str worker)::(AV.int .i64 ab)::(AV.int .i64 ae)::(AV.int .i64 ready)::cx 64) h .ret SI (NN bJ (fun i=>(AV.ptr i 0))<|NN nt (fun i=>(AV.ptr i 0))<|NN tH (fun i=>(AV.ptr i 0))<|NN wC (fun i=>(AV.ptr i 0))<|NN Gh (fun i=>(AV.ptr i 0))<|NN jI (fun i=>(AV.ptr i 0))<|CC<|MM (au 24 0 (AV.agg [t.ar,(AV.int .i64 t.rest),(AV.int .i64 t.day)]) (bQ _ _ (dD _ _ (eh _ _ (gn _ _ (fW _ _ aO))))) k!)<|CC<|MM (au 9 0 (AV.str worker) (bQ _ _ (dD _ _ (eh _ _ (gn _ _ ic)))) k!)<|MM (au 3 0 (AV.int .i64 ab) (bQ _ _ (dD _ _ (eh _ _ mR))) k!)<|MM (au 3 0 (AV.int .i64 ae) (bQ _ _ (dD _ _ kZ)) k!)<|MM (au 3 0 (AV.int .i64 ready) (bQ _ _ oM) k!)<|EE k7<|CN 2<|VV (cJ 30 false true .i64 (bx t l_ worker ab ae ready) 0)<|BB f0<|MM (au 24 0 (AV.agg [t.ar,(AV.int .i64 t.rest),(AV.int .i64 t.day)]) (bQ _ _ (dD _ _ (eh _ _ (gn _ _ (fW _ _ aO))))) k!)<|MM (au 3 0 (AV.int .i64 ab) (bQ _ _ (dD _ _ (eh _ _ mR))) k!)<|MM (au 3 0 (AV.int .i64 ae) (bQ _ _ (dD _ _ kZ)) k!)<|EE k9<|CN 3<|NN Cl (fun i=>(AV.ptr i 0))<|SS wD<|CN 3<|BB f1<|CC<|VV Cf<|VV (cI 3 false true .i64 ((l_.length:Nat):Int) 0)<|BB f2<|MM (au 3 0 (AV.int .i64 ready) (cE _ _ o! (dS _ _ (bQ _ _ oM))) k!)<|CN 2<|VV Ss<|VV u16<|VV Su<|CC<|MM Mc<|CC<|SS Nq<|HH (au 3 0 (AV.int .i64 ready) (cE _ _ o! (dS _ _ (bQ _ _ oM))) k!)<|HH (show AV.same 20 (AV.int .i64 ready) (AV.int .i64 ready)=true from aU 19 _ _)<|HH Mc<|HH (show AV.same 20 (AV.int .i64 ((l_.g (l_.length - 1)).aD)) (AV.int .i64 ((l_.g (l_.length - 1)).aD))=true from aU 19 _ _)<|CC<|MM (au 9 0 (AV.str worker) (jS _ _ o! (cE _ _ o! (dS _ _ (bQ _ _ (dD _ _ (eh _ _ (gn _ _ ic))))))) k!)<|EE Nr<|NN Ns (fun i=>(AV.ptr i 0))<|SS Nt<|CC<|NN Nu (fun i=>(AV.ptr i 0))<|SS Nv<|MM (au 3 0 (AV.int .i64 (imax ready ((l_.g (l_.length - 1)).aD))) (fI _ _ o! (iO _ _ (fX _ _ o! (ji _ _ (iN.a _ _ sK))))) k!)<|CC<|EE T0<|CN 2<|HH (au 3 0 (AV.int .i64 (imax ready ((l_.g (l_.length - 1)).aD))) (fI _ _ o! (iO _ _ (fX _ _ o! (ji _ _ (iN.a _ _ sK))))) k!)<|HH (show AV.same 20 (AV.int .i64 (imax ready ((l_.g (l_.length - 1)).aD))) (AV.int .i64 (imax ready ((l_.g (l_.length - 1)).aD)))=true from aU 19 _ _)<|HH (au 3 0 (AV.int .i64 (imax ready ((l_.g (l_.length - 1)).aD))) (fI _ _ o! (iO _ _ (fX _ _ o! (ji _ _ (iN.a _ _ sK))))) k!)<|HH (show AV.same 20 (AV.int .i64 (imax ready ((l_.g (l_.length - 1)).aD))) (AV.int .i64 (imax ready ((l_.g (l_.length - 1)).aD)))=true from aU 19 _ _)<|MM (au 79 0 (AV.func 22 [] [(AV.ptr h1.nx 0),(AV.ptr h2.nx 0),(AV.ptr h3.nx 0),(AV.ptr h6.nx 0)]) JE k!)<|CC<|EE T1<|NN Nx (fun i=>(AV.ptr i 0))<|SS Ny<|CC<|MM (au 3 4 (AV.int .i64 ((aN (IntKind.i64.wrap ((imax ready ((l_.g (l_.length - 1)).aD))+(bj 100001 (fun y=>bp y t (aR l_ worker) (imax ready ((l_.g (l_.length - 1)).aD)) worker ab ae ((aA t ab ae).1))))) worker ab ae ((aA t ab ae).1)).out)) JG k!)<|EE Xy<|BB f3<|MM (au 34 0 (AV.agg [(AV.str ((aN (IntKind.i64.wrap ((imax ready ((l_.g (l_.length - 1)).aD))+(bj 100001 (fun y=>bp y t (aR l_ worker) (imax ready ((l_.g (l_.length - 1)).aD)) worker ab ae ((aA t ab ae).1))))) worker ab ae ((aA t ab ae).1)).worker)),(AV.int .i64 ((aN (IntKind.i64.wrap ((imax ready ((l_.g (l_.length - 1)).aD))+(bj 100001 (fun y=>bp y t (aR l_ worker) (imax ready ((l_.g (l_.length - 1)).aD)) worker ab ae ((aA t ab ae).1))))) worker ab ae ((aA t ab ae).1)).ab)),(AV.int .i64 ((aN (IntKind.i64.wrap ((imax ready ((l_.g (l_.length - 1)).aD))+(bj 100001 (fun y=>bp y t (aR l_ worker) (imax ready ((l_.g (l_.length - 1)).aD)) worker ab ae ((aA t ab ae).1))))) worker ab ae ((aA t ab ae).1)).aD)),(AV.int .i64 ((aN (IntKind.i64.wrap ((imax ready ((l_.g (l_.length - 1)).aD))+(bj 100001 (fun y=>bp y t (aR l_ worker) (imax ready ((l_.g (l_.length - 1)).aD)) worker ab ae ((aA t ab ae).1))))) worker ab ae ((aA t ab ae).1)).leave)),(AV.int .i64 ((aN (IntKind.i64.wrap ((imax ready ((l_.g (l_.length - 1)).aD))+(bj 100001 (fun y=>bp y t (aR l_ worker) (imax ready ((l_.g (l_.length - 1)).aD)) worker ab ae ((aA t ab ae).1))))) worker ab ae ((aA t ab ae).1)).out))]) JG k!)<|SS JH<|CC<|ZZ) k!
         have e:af t l_ worker ab ae ready=((aN (IntKind.i64.wrap ((imax ready ((l_.g (l_.length - 1)).aD))+(bj 100001 (fun y=>bp y t (aR l_ worker) (imax ready ((l_.g (l_.length - 1)).aD)) worker ab ae ((aA t ab ae).1))))) worker ab ae ((aA t ab ae).1)),0):=by simp only[af,f0,f1,f2,f3,cond_true,cond_false]
         rw[e]
         exact ay rfl (fv (a:=12) (r:=13) (t:=34) (i:=h5.nx) Tryz.func7 ny k! (.inr rfl) ev k! (hG JI k!)) JJ rfl
       · obtain ⟨SI,JH,SJ,SK,JI,DL⟩:=lC (t:=34) (n:=5) (i:=h5.nx) (L:=[(AV.str []),(AV.int .i64 0),(AV.int .i64 0),(AV.int .i64 0),(AV.int .i64 0)]) JF (Ax _ _ o! (EW _ _ (fI _ _ o! (iO _ _ (fX _ _ o! (ji _ _ (iN.a _ _ (jS _ _ o! (cE _ _ o! (dS _ _ oL)))))))))) k! rfl rfl (by simp only[AV.cells,List.all_cons,List.all_nil,Bool.and_true,Bool.and_self,dL,cO,dM,dN,cu,fQ,fR,fS,fT,fU,dO])
         have JJ:Has h SI:=Has.ca Nz DL di o!
         have ev:=pk (d+12) hS ((AV.agg [t.ar,(AV.int .i64 t.rest),(AV.int .i64 t.day)])::bk::(AV.str worker)::(AV.int .i64 ab)::(AV.int .i64 ae)::(AV.int .i64 ready)::cx 64) h .ret SI (NN bJ (fun i=>(AV.ptr i 0))<|NN nt (fun i=>(AV.ptr i 0))<|NN tH (fun i=>(AV.ptr i 0))<|NN wC (fun i=>(AV.ptr i 0))<|NN Gh (fun i=>(AV.ptr i 0))<|NN jI (fun i=>(AV.ptr i 0))<|CC<|MM (au 24 0 (AV.agg [t.ar,(AV.int .i64 t.rest),(AV.int .i64 t.day)]) (bQ _ _ (dD _ _ (eh _ _ (gn _ _ (fW _ _ aO))))) k!)<|CC<|MM (au 9 0 (AV.str worker) (bQ _ _ (dD _ _ (eh _ _ (gn _ _ ic)))) k!)<|MM (au 3 0 (AV.int .i64 ab) (bQ _ _ (dD _ _ (eh _ _ mR))) k!)<|MM (au 3 0 (AV.int .i64 ae) (bQ _ _ (dD _ _ kZ)) k!)<|MM (au 3 0 (AV.int .i64 ready) (bQ _ _ oM) k!)<|EE k7<|CN 2<|VV (cJ 30 false true .i64 (bx t l_ worker ab ae ready) 0)<|BB f0<|MM (au 24 0 (AV.agg [t.ar,(AV.int .i64 t.rest),(AV.int .i64 t.day)]) (bQ _ _ (dD _ _ (eh _ _ (gn _ _ (fW _ _ aO))))) k!)<|MM (au 3 0 (AV.int .i64 ab) (bQ _ _ (dD _ _ (eh _ _ mR))) k!)<|MM (au 3 0 (AV.int .i64 ae) (bQ _ _ (dD _ _ kZ)) k!)<|EE k9<|CN 3<|NN Cl (fun i=>(AV.ptr i 0))<|SS wD<|CN 3<|BB f1<|CC<|VV Cf<|VV (cI 3 false true .i64 ((l_.length:Nat):Int) 0)<|BB f2<|MM (au 3 0 (AV.int .i64 ready) (cE _ _ o! (dS _ _ (bQ _ _ oM))) k!)<|CN 2<|VV Ss<|VV u16<|VV Su<|CC<|MM Mc<|CC<|SS Nq<|HH (au 3 0 (AV.int .i64 ready) (cE _ _ o! (dS _ _ (bQ _ _ oM))) k!)<|HH (show AV.same 20 (AV.int .i64 ready) (AV.int .i64 ready)=true from aU 19 _ _)<|HH Mc<|HH (show AV.same 20 (AV.int .i64 ((l_.g (l_.length - 1)).aD)) (AV.int .i64 ((l_.g (l_.length - 1)).aD))=true from aU 19 _ _)<|CC<|MM (au 9 0 (AV.str worker) (jS _ _ o! (cE _ _ o! (dS _ _ (bQ _ _ (dD _ _ (eh _ _ (gn _ _ ic))))))) k!)<|EE Nr<|NN Ns (fun i=>(AV.ptr i 0))<|SS Nt<|CC<|NN Nu (fun i=>(AV.ptr i 0))<|SS Nv<|MM (au 3 0 (AV.int .i64 (imax ready ((l_.g (l_.length - 1)).aD))) (fI _ _ o! (iO _ _ (fX _ _ o! (ji _ _ (iN.a _ _ sK))))) k!)<|CC<|EE T0<|CN 2<|HH (au 3 0 (AV.int .i64 (imax ready ((l_.g (l_.length - 1)).aD))) (fI _ _ o! (iO _ _ (fX _ _ o! (ji _ _ (iN.a _ _ sK))))) k!)<|HH (show AV.same 20 (AV.int .i64 (imax ready ((l_.g (l_.length - 1)).aD))) (AV.int .i64 (imax ready ((l_.g (l_.length - 1)).aD)))=true from aU 19 _ _)<|HH (au 3 0 (AV.int .i64 (imax ready ((l_.g (l_.length - 1)).aD))) (fI _ _ o! (iO _ _ (fX _ _ o! (ji _ _ (iN.a _ _ sK))))) k!)<|HH (show AV.same 20 (AV.int .i64 (imax ready ((l_.g (l_.length - 1)).aD))) (AV.int .i64 (imax ready ((l_.g (l_.length - 1)).aD)))=true from aU 19 _ _)<|MM (au 79 0 (AV.func 22 [] [(AV.ptr h1.nx 0),(AV.ptr h2.nx 0),(AV.ptr h3.nx 0),(AV.ptr h6.nx 0)]) JE k!)<|CC<|EE T1<|NN Nx (fun i=>(AV.ptr i 0))<|SS Ny<|CC<|MM (au 3 4 (AV.int .i64 ((aN (IntKind.i64.wrap ((imax ready ((l_.g (l_.length - 1)).aD))+(bj 100001 (fun y=>bp y t (aR l_ worker) (imax ready ((l_.g (l_.length - 1)).aD)) worker ab ae ((aA t ab ae).1))))) worker ab ae ((aA t ab ae).1)).out)) JG k!)<|EE Xy<|BB f3<|CC<|SS JH<|CC<|ZZ) k!
         have e:af t l_ worker ab ae ready=((⟨[],0,0,0,0⟩:aw),9):=by simp only[af,f0,f1,f2,f3,cond_true,cond_false]
         rw[e]
         exact ay rfl (fv (a:=12) (r:=13) (t:=34) (i:=h5.nx) Tryz.func7 ny k! (.inr rfl) ev k! (hG JI k!)) JJ rfl
     · have lh:=of_decide_eq_false f2
       obtain ⟨V5,mF,NA,iP,Me⟩:=pI (d:=d+11) l_ worker (cR.has wE) cA (by first | omega | assumption | (simp only[List.length_set,List.length_replicate,List.length_append,List.length_cons,List.length_nil,List.nil_append]<;>omega) | (rw[List.length_take];omega)) EH
       have uz:=iP.y
       have Nc:Qm.nx≤mF.nx:=iP.n
       have NB:Has h mF:=wE.trans iP.a
       have V6:=Me.small
       obtain ⟨Xz,NC,SL,XA,SM,jj⟩:=jA uz (aP.cells [AV.aF] 25 false)
       have SN:Has h Xz:=NB.trans jj
       have Gm:Has mF Xz:=jj
       have Zs:AV.scalar V5=true:=Me.scalar
       obtain ⟨Ub,ND,SO,XB,SP,fY⟩:=RX (t:=25) (i:=mF.nx) (o:=0) (v:=V5) (N:=[V5]) SL SM k! Me.scalar k! k!
       have SQ:Has h Ub:=Has.ca SN fY di o!
       have Gn:Has mF Ub:=Has.ca Gm fY uz o!
       obtain ⟨Sv,NF,JB,Sw,sK,iQ⟩:=jA SO (aP.cells [AV.nilFunc] 79 false)
       have EU:Has h Sv:=SQ.trans iQ
       have Gp:Has mF Sv:=Gn.trans iQ
       obtain ⟨Uc,NG,JK,XC,JL,fJ⟩:=I0 (t:=79) (n:=1) (i:=Ub.nx) (o:=0) (v:=(AV.func 22 [] [(AV.ptr h1.nx 0),(AV.ptr h2.nx 0),(AV.ptr h3.nx 0),(AV.ptr h6.nx 0)])) (N:=[(AV.func 22 [] [(AV.ptr h1.nx 0),(AV.ptr h2.nx 0),(AV.ptr h3.nx 0),(AV.ptr h6.nx 0)])]) JB sK k! rfl k! k! (by simp only[AV.cells,List.all_cons,List.all_nil,Bool.and_true,Bool.and_self,dL,cO,dM,dN,cu,fQ,fR,fS,fT,fU,dO,M7])
       have NH:Has h Uc:=Has.ca EU fJ di o!
       have y_:Has mF Uc:=Has.ca Gp fJ uz o!
       have TX:=xk (d:=d+11) 100001 (fun y=>bp y t (aR l_ worker) ready worker ab ae ((aA t ab ae).1)) (fun y hh yy aa=>y7 (d:=d+4) y t h.nx (aR l_ worker) mF.nx Ub.nx ready h4.nx worker h1.nx ab h2.nx ae h3.nx ((aA t ab ae).1) h6.nx (aG.mono aa (aG.mono NH g6)) (aa _ _ (fJ _ _ o! (iQ _ _ (fY _ _ o! (jj _ _ (iP.a _ _ (cE _ _ o! (dS _ _ (bQ _ _ (dD _ _ (eh _ _ (gn _ _ (fW _ _ aO))))))))))))) ((Me.has y_).has aa) (aa _ _ (fJ _ _ o! (iQ _ _ SP))) (aa _ _ JL) (aa _ _ (fJ _ _ o! (iQ _ _ (fY _ _ o! (jj _ _ (iP.a _ _ (cE _ _ o! (dS _ _ (bQ _ _ oM))))))))) cA (aa _ _ (fJ _ _ o! (iQ _ _ (fY _ _ o! (jj _ _ (iP.a _ _ (cE _ _ o! (dS _ _ (bQ _ _ (dD _ _ (eh _ _ (gn _ _ ic)))))))))))) (aa _ _ (fJ _ _ o! (iQ _ _ (fY _ _ o! (jj _ _ (iP.a _ _ (cE _ _ o! (dS _ _ (bQ _ _ (dD _ _ (eh _ _ mR))))))))))) (aa _ _ (fJ _ _ o! (iQ _ _ (fY _ _ o! (jj _ _ (iP.a _ _ (cE _ _ o! (dS _ _ (bQ _ _ (dD _ _ kZ)))))))))) (aG.mono aa trivial) (aa _ _ (fJ _ _ o! (iQ _ _ (fY _ _ o! (jj _ _ (iP.a _ _ yO)))))) yy) (by first | omega | assumption | (simp only[List.length_set,List.length_replicate,List.length_append,List.length_cons,List.length_nil,List.nil_append]<;>omega) | (rw[List.length_take];omega)) (by first | omega | assumption | (simp only[List.length_set,List.length_replicate,List.length_append,List.length_cons,List.length_nil,List.nil_append]<;>omega) | (rw[List.length_take];omega)) JK
       have TY:=tP (d:=d+11) (IntKind.i64.wrap (ready+(bj 100001 (fun y=>bp y t (aR l_ worker) ready worker ab ae ((aA t ab ae).1))))) worker h1.nx ab h2.nx ae h3.nx ((aA t ab ae).1) h6.nx cA (fJ _ _ o! (iQ _ _ (fY _ _ o! (jj _ _ (iP.a _ _ (cE _ _ o! (dS _ _ (bQ _ _ (dD _ _ (eh _ _ (gn _ _ ic))))))))))) (fJ _ _ o! (iQ _ _ (fY _ _ o! (jj _ _ (iP.a _ _ (cE _ _ o! (dS _ _ (bQ _ _ (dD _ _ (eh _ _ mR)))))))))) (fJ _ _ o! (iQ _ _ (fY _ _ o! (jj _ _ (iP.a _ _ (cE _ _ o! (dS _ _ (bQ _ _ (dD _ _ kZ))))))))) trivial (fJ _ _ o! (iQ _ _ (fY _ _ o! (jj _ _ (iP.a _ _ yO))))) JK
       have Zt:aG.ok Uc (aN (IntKind.i64.wrap (ready+(bj 100001 (fun y=>bp y t (aR l_ worker) ready worker ab ae ((aA t ab ae).1))))) worker ab ae ((aA t ab ae).1)):=cA
       obtain ⟨qg,NI,y8,SB,JC,EX⟩:=jA JK (aP.cells [(AV.str []),(AV.int .i64 0),(AV.int .i64 0),(AV.int .i64 0),(AV.int .i64 0)] 34 false)
       have nA:Has h qg:=NH.trans EX
       have Gq:Has mF qg:=y_.trans EX
       obtain ⟨XD,NJ,JM,XE,JN,Ay⟩:=lC (t:=34) (n:=5) (i:=Uc.nx) (L:=[(AV.str ((aN (IntKind.i64.wrap (ready+(bj 100001 (fun y=>bp y t (aR l_ worker) ready worker ab ae ((aA t ab ae).1))))) worker ab ae ((aA t ab ae).1)).worker)),(AV.int .i64 ((aN (IntKind.i64.wrap (ready+(bj 100001 (fun y=>bp y t (aR l_ worker) ready worker ab ae ((aA t ab ae).1))))) worker ab ae ((aA t ab ae).1)).ab)),(AV.int .i64 ((aN (IntKind.i64.wrap (ready+(bj 100001 (fun y=>bp y t (aR l_ worker) ready worker ab ae ((aA t ab ae).1))))) worker ab ae ((aA t ab ae).1)).aD)),(AV.int .i64 ((aN (IntKind.i64.wrap (ready+(bj 100001 (fun y=>bp y t (aR l_ worker) ready worker ab ae ((aA t ab ae).1))))) worker ab ae ((aA t ab ae).1)).leave)),(AV.int .i64 ((aN (IntKind.i64.wrap (ready+(bj 100001 (fun y=>bp y t (aR l_ worker) ready worker ab ae ((aA t ab ae).1))))) worker ab ae ((aA t ab ae).1)).out))]) y8 JC k! rfl rfl (by simp only[AV.cells,List.all_cons,List.all_nil,Bool.and_true,Bool.and_self,dL,cO,dM,dN,cu,fQ,fR,fS,fT,fU,dO])
       have NK:Has h XD:=Has.ca nA Ay di o!
       have Qw:Has mF XD:=Has.ca Gq Ay uz o!
       have TZ:=cW (d:=d+10) ((aN (IntKind.i64.wrap (ready+(bj 100001 (fun y=>bp y t (aR l_ worker) ready worker ab ae ((aA t ab ae).1))))) worker ab ae ((aA t ab ae).1)).out) JM
       rcases Bool.eq_false_or_eq_true (bq ((aN (IntKind.i64.wrap (ready+(bj 100001 (fun y=>bp y t (aR l_ worker) ready worker ab ae ((aA t ab ae).1))))) worker ab ae ((aA t ab ae).1)).out)) with f3 | f3
       · obtain ⟨sL,JO,Cm,SU,JP,DM⟩:=lC (t:=34) (n:=5) (i:=h5.nx) (L:=[(AV.str ((aN (IntKind.i64.wrap (ready+(bj 100001 (fun y=>bp y t (aR l_ worker) ready worker ab ae ((aA t ab ae).1))))) worker ab ae ((aA t ab ae).1)).worker)),(AV.int .i64 ((aN (IntKind.i64.wrap (ready+(bj 100001 (fun y=>bp y t (aR l_ worker) ready worker ab ae ((aA t ab ae).1))))) worker ab ae ((aA t ab ae).1)).ab)),(AV.int .i64 ((aN (IntKind.i64.wrap (ready+(bj 100001 (fun y=>bp y t (aR l_ worker) ready worker ab ae ((aA t ab ae).1))))) worker ab ae ((aA t ab ae).1)).aD)),(AV.int .i64 ((aN (IntKind.i64.wrap (ready+(bj 100001 (fun y=>bp y t (aR l_ worker) ready worker ab ae ((aA t ab ae).1))))) worker ab ae ((aA t ab ae).1)).leave)),(AV.int .i64 ((aN (IntKind.i64.wrap (ready+(bj 100001 (fun y=>bp y t (aR l_ worker) ready worker ab ae ((aA t ab ae).1))))) worker ab ae ((aA t ab ae).1)).out))]) JM (Ay _ _ o! (EX _ _ (fJ _ _ o! (iQ _ _ (fY _ _ o! (jj _ _ (iP.a _ _ (cE _ _ o! (dS _ _ oL))))))))) k! rfl rfl (by simp only[AV.cells,List.all_cons,List.all_nil,Bool.and_true,Bool.and_self,dL,cO,dM,dN,cu,fQ,fR,fS,fT,fU,dO])
         have sM:Has h sL:=Has.ca NK DM di o!
         have ev:=pk (d+12) hS ((AV.agg [t.ar,(AV.int .i64 t.rest),(AV.int .i64 t.day)])::bk::(AV.str worker)::(AV.int .i64 ab)::(AV.int .i64 ae)::(AV.int .i64 ready)::cx 64) h .ret sL (NN bJ (fun i=>(AV.ptr i 0))<|NN nt (fun i=>(AV.ptr i 0))<|NN tH (fun i=>(AV.ptr i 0))<|NN wC (fun i=>(AV.ptr i 0))<|NN Gh (fun i=>(AV.ptr i 0))<|NN jI (fun i=>(AV.ptr i 0))<|CC<|MM (au 24 0 (AV.agg [t.ar,(AV.int .i64 t.rest),(AV.int .i64 t.day)]) (bQ _ _ (dD _ _ (eh _ _ (gn _ _ (fW _ _ aO))))) k!)<|CC<|MM (au 9 0 (AV.str worker) (bQ _ _ (dD _ _ (eh _ _ (gn _ _ ic)))) k!)<|MM (au 3 0 (AV.int .i64 ab) (bQ _ _ (dD _ _ (eh _ _ mR))) k!)<|MM (au 3 0 (AV.int .i64 ae) (bQ _ _ (dD _ _ kZ)) k!)<|MM (au 3 0 (AV.int .i64 ready) (bQ _ _ oM) k!)<|EE k7<|CN 2<|VV (cJ 30 false true .i64 (bx t l_ worker ab ae ready) 0)<|BB f0<|MM (au 24 0 (AV.agg [t.ar,(AV.int .i64 t.rest),(AV.int .i64 t.day)]) (bQ _ _ (dD _ _ (eh _ _ (gn _ _ (fW _ _ aO))))) k!)<|MM (au 3 0 (AV.int .i64 ab) (bQ _ _ (dD _ _ (eh _ _ mR))) k!)<|MM (au 3 0 (AV.int .i64 ae) (bQ _ _ (dD _ _ kZ)) k!)<|EE k9<|CN 3<|NN Cl (fun i=>(AV.ptr i 0))<|SS wD<|CN 3<|BB f1<|CC<|VV Cf<|VV (cI 3 false true .i64 ((l_.length:Nat):Int) 0)<|BB f2<|CC<|MM (au 9 0 (AV.str worker) (cE _ _ o! (dS _ _ (bQ _ _ (dD _ _ (eh _ _ (gn _ _ ic)))))) k!)<|EE NA<|NN NC (fun i=>(AV.ptr i 0))<|SS ND<|CC<|NN NF (fun i=>(AV.ptr i 0))<|SS NG<|MM (au 3 0 (AV.int .i64 ready) (fJ _ _ o! (iQ _ _ (fY _ _ o! (jj _ _ (iP.a _ _ (cE _ _ o! (dS _ _ (bQ _ _ oM)))))))) k!)<|CC<|EE TX<|CN 2<|HH (au 3 0 (AV.int .i64 ready) (fJ _ _ o! (iQ _ _ (fY _ _ o! (jj _ _ (iP.a _ _ (cE _ _ o! (dS _ _ (bQ _ _ oM)))))))) k!)<|HH (show AV.same 20 (AV.int .i64 ready) (AV.int .i64 ready)=true from aU 19 _ _)<|HH (au 3 0 (AV.int .i64 ready) (fJ _ _ o! (iQ _ _ (fY _ _ o! (jj _ _ (iP.a _ _ (cE _ _ o! (dS _ _ (bQ _ _ oM)))))))) k!)<|HH (show AV.same 20 (AV.int .i64 ready) (AV.int .i64 ready)=true from aU 19 _ _)<|MM (au 79 0 (AV.func 22 [] [(AV.ptr h1.nx 0),(AV.ptr h2.nx 0),(AV.ptr h3.nx 0),(AV.ptr h6.nx 0)]) JL k!)<|CC<|EE TY<|NN NI (fun i=>(AV.ptr i 0))<|SS NJ<|CC<|MM (au 3 4 (AV.int .i64 ((aN (IntKind.i64.wrap (ready+(bj 100001 (fun y=>bp y t (aR l_ worker) ready worker ab ae ((aA t ab ae).1))))) worker ab ae ((aA t ab ae).1)).out)) JN k!)<|EE TZ<|BB f3<|MM (au 34 0 (AV.agg [(AV.str ((aN (IntKind.i64.wrap (ready+(bj 100001 (fun y=>bp y t (aR l_ worker) ready worker ab ae ((aA t ab ae).1))))) worker ab ae ((aA t ab ae).1)).worker)),(AV.int .i64 ((aN (IntKind.i64.wrap (ready+(bj 100001 (fun y=>bp y t (aR l_ worker) ready worker ab ae ((aA t ab ae).1))))) worker ab ae ((aA t ab ae).1)).ab)),(AV.int .i64 ((aN (IntKind.i64.wrap (ready+(bj 100001 (fun y=>bp y t (aR l_ worker) ready worker ab ae ((aA t ab ae).1))))) worker ab ae ((aA t ab ae).1)).aD)),(AV.int .i64 ((aN (IntKind.i64.wrap (ready+(bj 100001 (fun y=>bp y t (aR l_ worker) ready worker ab ae ((aA t ab ae).1))))) worker ab ae ((aA t ab ae).1)).leave)),(AV.int .i64 ((aN (IntKind.i64.wrap (ready+(bj 100001 (fun y=>bp y t (aR l_ worker) ready worker ab ae ((aA t ab ae).1))))) worker ab ae ((aA t ab ae).1)).out))]) JN k!)<|SS JO<|CC<|ZZ) k!
         have e:af t l_ worker ab ae ready=((aN (IntKind.i64.wrap (ready+(bj 100001 (fun y=>bp y t (aR l_ worker) ready worker ab ae ((aA t ab ae).1))))) worker ab ae ((aA t ab ae).1)),0):=by simp only[af,f0,f1,f2,f3,cond_true,cond_false]
         rw[e]
         exact ay rfl (fv (a:=12) (r:=13) (t:=34) (i:=h5.nx) Tryz.func7 ny k! (.inr rfl) ev k! (hG JP k!)) sM rfl
       · obtain ⟨sL,JO,Cm,SU,JP,DM⟩:=lC (t:=34) (n:=5) (i:=h5.nx) (L:=[(AV.str []),(AV.int .i64 0),(AV.int .i64 0),(AV.int .i64 0),(AV.int .i64 0)]) JM (Ay _ _ o! (EX _ _ (fJ _ _ o! (iQ _ _ (fY _ _ o! (jj _ _ (iP.a _ _ (cE _ _ o! (dS _ _ oL))))))))) k! rfl rfl (by simp only[AV.cells,List.all_cons,List.all_nil,Bool.and_true,Bool.and_self,dL,cO,dM,dN,cu,fQ,fR,fS,fT,fU,dO])
         have sM:Has h sL:=Has.ca NK DM di o!
         have ev:=pk (d+12) hS ((AV.agg [t.ar,(AV.int .i64 t.rest),(AV.int .i64 t.day)])::bk::(AV.str worker)::(AV.int .i64 ab)::(AV.int .i64 ae)::(AV.int .i64 ready)::cx 64) h .ret sL (NN bJ (fun i=>(AV.ptr i 0))<|NN nt (fun i=>(AV.ptr i 0))<|NN tH (fun i=>(AV.ptr i 0))<|NN wC (fun i=>(AV.ptr i 0))<|NN Gh (fun i=>(AV.ptr i 0))<|NN jI (fun i=>(AV.ptr i 0))<|CC<|MM (au 24 0 (AV.agg [t.ar,(AV.int .i64 t.rest),(AV.int .i64 t.day)]) (bQ _ _ (dD _ _ (eh _ _ (gn _ _ (fW _ _ aO))))) k!)<|CC<|MM (au 9 0 (AV.str worker) (bQ _ _ (dD _ _ (eh _ _ (gn _ _ ic)))) k!)<|MM (au 3 0 (AV.int .i64 ab) (bQ _ _ (dD _ _ (eh _ _ mR))) k!)<|MM (au 3 0 (AV.int .i64 ae) (bQ _ _ (dD _ _ kZ)) k!)<|MM (au 3 0 (AV.int .i64 ready) (bQ _ _ oM) k!)<|EE k7<|CN 2<|VV (cJ 30 false true .i64 (bx t l_ worker ab ae ready) 0)<|BB f0<|MM (au 24 0 (AV.agg [t.ar,(AV.int .i64 t.rest),(AV.int .i64 t.day)]) (bQ _ _ (dD _ _ (eh _ _ (gn _ _ (fW _ _ aO))))) k!)<|MM (au 3 0 (AV.int .i64 ab) (bQ _ _ (dD _ _ (eh _ _ mR))) k!)<|MM (au 3 0 (AV.int .i64 ae) (bQ _ _ (dD _ _ kZ)) k!)<|EE k9<|CN 3<|NN Cl (fun i=>(AV.ptr i 0))<|SS wD<|CN 3<|BB f1<|CC<|VV Cf<|VV (cI 3 false true .i64 ((l_.length:Nat):Int) 0)<|BB f2<|CC<|MM (au 9 0 (AV.str worker) (cE _ _ o! (dS _ _ (bQ _ _ (dD _ _ (eh _ _ (gn _ _ ic)))))) k!)<|EE NA<|NN NC (fun i=>(AV.ptr i 0))<|SS ND<|CC<|NN NF (fun i=>(AV.ptr i 0))<|SS NG<|MM (au 3 0 (AV.int .i64 ready) (fJ _ _ o! (iQ _ _ (fY _ _ o! (jj _ _ (iP.a _ _ (cE _ _ o! (dS _ _ (bQ _ _ oM)))))))) k!)<|CC<|EE TX<|CN 2<|HH (au 3 0 (AV.int .i64 ready) (fJ _ _ o! (iQ _ _ (fY _ _ o! (jj _ _ (iP.a _ _ (cE _ _ o! (dS _ _ (bQ _ _ oM)))))))) k!)<|HH (show AV.same 20 (AV.int .i64 ready) (AV.int .i64 ready)=true from aU 19 _ _)<|HH (au 3 0 (AV.int .i64 ready) (fJ _ _ o! (iQ _ _ (fY _ _ o! (jj _ _ (iP.a _ _ (cE _ _ o! (dS _ _ (bQ _ _ oM)))))))) k!)<|HH (show AV.same 20 (AV.int .i64 ready) (AV.int .i64 ready)=true from aU 19 _ _)<|MM (au 79 0 (AV.func 22 [] [(AV.ptr h1.nx 0),(AV.ptr h2.nx 0),(AV.ptr h3.nx 0),(AV.ptr h6.nx 0)]) JL k!)<|CC<|EE TY<|NN NI (fun i=>(AV.ptr i 0))<|SS NJ<|CC<|MM (au 3 4 (AV.int .i64 ((aN (IntKind.i64.wrap (ready+(bj 100001 (fun y=>bp y t (aR l_ worker) ready worker ab ae ((aA t ab ae).1))))) worker ab ae ((aA t ab ae).1)).out)) JN k!)<|EE TZ<|BB f3<|CC<|SS JO<|CC<|ZZ) k!
         have e:af t l_ worker ab ae ready=((⟨[],0,0,0,0⟩:aw),9):=by simp only[af,f0,f1,f2,f3,cond_true,cond_false]
         rw[e]
         exact ay rfl (fv (a:=12) (r:=13) (t:=34) (i:=h5.nx) Tryz.func7 ny k! (.inr rfl) ev k! (hG JP k!)) sM rfl
structure NL (P:Int→Bool) (N r:Int):Prop where
 r0:0≤r
 rN:r≤N
 lo:∀y,0≤y→y<r→P y=false
 hi:∀y,r≤y→y<N→P y=true
theorem tQ {P:Int→Bool} {N:Int} (hN:N≤1000000) (mono:∀y z,0≤y→y≤z→z<N→P y=true→P z=true):∀(k:Nat) (i j:Int),j - i≤(k:Int)→0≤i→i≤j→j≤N→(∀y,0≤y→y<i→P y=false)→(∀y,j≤y→y<N→P y=true)→NL P N (eb P k i j)
 | 0,i,j,h,h0,h1,h2,a,b=>by
   rw[eb]
   exact ⟨h0,by omega,a,fun y hy=>b y (by omega)⟩
 | k+1,i,j,h,h0,h1,h2,a,b=>by
   rw[eb]
   by_cases q:i<j
   · obtain ⟨e,m1,m2⟩:=M8 h0 q (by omega)
     rw[e,decide_eq_true q]
     simp only[cond_true]
     cases hp:P ((i+j) /2) with
     | false=>
       simp only[Bool.not_false,cond_true]
       refine tQ hN mono k _ _ (by omega) (by omega) (by omega) h2 (fun y y0 y1=>?_) b
       cases hy:P y with
       | false=>rfl
       | true=>have:=mono y ((i+j) /2) y0 (by omega) (by omega) hy;rw[hp] at this;cases this
     | true=>
       simp only[Bool.not_true,cond_false]
       exact tQ hN mono k _ _ (by omega) h0 m1 (by omega) a fun y y1 y2=>mono _ y (by omega) y1 y2 hp
   · rw[decide_eq_false q]
     simp only[cond_false]
     exact ⟨h0,by omega,a,fun y hy=>b y (by omega)⟩
theorem Gr {P:Int→Bool} {N:Int} (h0:0≤N) (hN:N≤1000000) (mono:∀y z,0≤y→y≤z→z<N→P y=true→P z=true):NL P N (bj N P):=
 tQ hN mono _ 0 N (by omega) (Int.le_refl _) h0 (Int.le_refl _) (fun y _ _=>by omega) fun y _ _=>by omega
structure Mf (s:dV):Prop where
 order:bI s=true
 Ud:bO s=true
 rV:bu s=true
 PL:bP s=true
 short:bh s=true
theorem rn (s:dV):b7 s=0↔Mf s:=by
 unfold b7
 constructor
 · intro h
   cases q1:bI s with
   | false=>rw[q1] at h;cases h
   | true=>
   cases q2:bO s with
   | false=>rw[q1,q2] at h;cases h
   | true=>
   cases q3:bu s with
   | false=>rw[q1,q2,q3] at h;cases h
   | true=>
   cases q4:bP s with
   | false=>rw[q1,q2,q3,q4] at h;cases h
   | true=>
   cases q5:bh s with
   | false=>rw[q1,q2,q3,q4,q5] at h;cases h
   | true=>exact ⟨q1,q2,q3,q4,q5⟩
 · intro ⟨h1,h2,h3,h4,h5⟩
   rw[h1,h2,h3,h4,h5];rfl
theorem tR {t:aH} {a:List aw} {x:aw} (hx:Ok x) (ha:∀d∈a,Ok d) (h:bP (st t a x)=true) (hn:a≠ []):t.rest≤x.aD -(a.g (a.length - 1)).out:=by
 rw[pN,decide_eq_false (show ¬((a.length:Nat):Int)=0 from fun e=>hn (List.length_eq_zero_iff.1 (by omega)))] at h
 have hl:=List.length_pos_iff.2 hn
 have b:=ha _ (BZ (show a.length - 1<a.length by omega))
 have:=hx.i0;have:=hx.i1;have:=b.o0;have:=b.o1
 rw[wrap_i64 (by omega) (by omega)] at h
 exact of_decide_eq_true h
theorem chain {t:aH} {l:List aw} (s:lq t l) (hr:0≤t.rest) (nf:∀j,j<l.length→cc t l (j:Int)=0) (w:List UInt8):∀n,n≤l.length→∀d∈mu w (l.take n),d.leave≤d.out∧d.out≤((mu w (l.take n)).g ((mu w (l.take n)).length - 1)).out
 | 0,_,d,hd=>by cases hd
 | i+1,h,d,hd=>by
   have hi:i<l.length:=by omega
   rw[xf w hi] at hd ⊢
   by_cases q:(l.g i).worker=w
   · rw[decide_eq_true q] at hd ⊢
     simp only[cond_true] at hd ⊢
     have hf:=nf i hi
     rw[←pO t (fun j hj=>(sE s.Qu j hj).1) (by have:=s.len;omega) hi fun j hj=>s.Ok j (by omega)] at hf
     have V7:=(rn _).1 hf
     rw[q] at V7
     have hx:=s.Ok i hi
     have ho:=V7.order
     rw[ot] at ho
     have h1:(l.g i).aD<(l.g i).leave∧(l.g i).leave≤(l.g i).out:=by
      by_cases e:(l.g i).aD<(l.g i).leave
      · rw[decide_eq_true e] at ho;exact ⟨e,of_decide_eq_true ho⟩
      · rw[decide_eq_false e] at ho;cases ho
     have vK:(mu w (List.take i l)++[l.g i]).g ((mu w (List.take i l)++[l.g i]).length - 1)=l.g i:=by
      rw[List.length_append,List.length_singleton,Nat.add_sub_cancel,List.g,List.getD_eq_getElem?_getD,List.getElem?_append_right (Nat.le_refl _),Nat.sub_self];rfl
     rw[vK]
     rcases List.mem_append.1 hd with hd | hd
     · have ih:=chain s hr nf w i (by omega) d hd
       have lT:=DG (w:=w) (show i≤l.length by omega) fun j hj=>s.Ok j (by omega)
       have:=tR hx lT V7.PL (List.ne_nil_of_mem hd)
       omega
     · rw[List.mem_singleton] at hd;subst hd
       exact ⟨h1.2,Int.le_refl _⟩
   · rw[decide_eq_false q] at hd ⊢
     exact chain s hr nf w i (by omega) d hd
def X (w:List UInt8) (p m n i:Int):aw:=⟨w,p,i,i+m,i+m+n⟩
theorem SV {w:List UInt8} {p m n i:Int} (hm:0≤m) (hn:0≤n) (hi:0≤i) (h:i+m+n≤1000000):Ok (X w p m n i):=
 ⟨hi,by show i≤_;omega,by show 0≤i+m;omega,by show i+m≤_;omega,by show 0≤i+m+n;omega,h⟩
theorem EY {x y:aw}:∀{l:List aw},(∀d∈l,rm y d≤rm x d)→iM y l≤iM x l
 | [],_=>Int.le_refl _
 | d::l,h=>by
   have a:=h d (by simp)
   have b:=EY (x:=x) (y:=y) (l:=l) fun e he=>h e (by simp [he])
   show rm y d+iM y l≤rm x d+iM x l
   omega
theorem later {t:aH} {a:List aw} {w:List UInt8} {p m n i j:Int} (hr:0≤t.rest) (ha:∀d∈a,Ok d) (hlen:a.length≤1000) (hc:∀d∈a,d.leave≤d.out∧d.out≤(a.g (a.length - 1)).out) (hm:0<m) (NM:m≤100000) (hn:0≤n) (Qc:n≤100000) (hi:0≤i) (WG:i≤j) (hj:j≤300000)
 (h:b7 (st t a (X w p m n i))=0):b7 (st t a (X w p m n j))=0:=by
 have oi:=SV (w:=w) (p:=p) (m:=m) (n:=n) (i:=i) (by omega) hn hi (by omega)
 have oj:=SV (w:=w) (p:=p) (m:=m) (n:=n) (i:=j) (by omega) hn (by omega) (by omega)
 obtain ⟨h1,h2,h3,h4,h5⟩:=(rn _).1 h
 refine (rn _).2 ⟨?_,?_,?_,?_,?_⟩
 · rw[ot]
   rw[decide_eq_true (show (X w p m n j).aD<(X w p m n j).leave by show j<j+m;omega),decide_eq_true (show (X w p m n j).leave≤(X w p m n j).out by show j+m≤j+m+n;omega)];rfl
 · rw[sG] at h2 ⊢
   rw[show (X w p m n i).leave -(X w p m n i).aD=m by show i+m - i=m;omega] at h2
   rw[show (X w p m n j).leave -(X w p m n j).aD=m by show j+m - j=m;omega]
   exact h2
 · rw[yY] at h3 ⊢
   rw[show (X w p m n i).leave -(X w p m n i).aD=m by show i+m - i=m;omega,show (X w p m n i).out -(X w p m n i).leave=n by show i+m+n -(i+m)=n;omega] at h3
   rw[show (X w p m n j).leave -(X w p m n j).aD=m by show j+m - j=m;omega,show (X w p m n j).out -(X w p m n j).leave=n by show j+m+n -(j+m)=n;omega]
   exact h3
 · by_cases e:a=[]
   · subst e;rfl
   · have r1:=tR oi ha h4 e
     have hl:=List.length_pos_iff.2 e
     have b:=ha _ (BZ (show a.length - 1<a.length by omega))
     have:=b.o0;have:=b.o1
     have r2:t.rest≤j -(a.g (a.length - 1)).out:=by
      have:t.rest≤i -(a.g (a.length - 1)).out:=r1
      omega
     rw[pN,decide_eq_false (show ¬((a.length:Nat):Int)=0 by omega)]
     rw[show (X w p m n j).aD=j from rfl,wrap_i64 (by omega) (by omega)]
     exact decide_eq_true r2
 · rw[xg t oi ha hlen] at h5
   rw[xg t oj ha hlen]
   have h5:=of_decide_eq_true h5
   apply decide_eq_true
   have own:rm (X w p m n j) (X w p m n j)=rm (X w p m n i) (X w p m n i):=by
    rw[sF oi oi,sF oj oj]
    show max 0 (min (j+m) (j+m) - max j (j+m - 1440))=max 0 (min (i+m) (i+m) - max i (i+m - 1440))
    omega
   have:iM (X w p m n j) a≤iM (X w p m n i) a:=EY fun d hd=>by
    have r1:t.rest≤i -(a.g (a.length - 1)).out:=tR oi ha h4 (List.ne_nil_of_mem hd)
    have c:=hc d hd
    rw[sF oi (ha d hd),sF oj (ha d hd)]
    show max 0 (min d.leave (j+m) - max d.aD (j+m - 1440))≤max 0 (min d.leave (i+m) - max d.aD (i+m - 1440))
    omega
   omega
noncomputable def kN:Code:=(Tryz.f4.body).getD .skip
theorem xm:Tryz.f4.body=some kN:=by kernel_rfl
noncomputable def rp:Code:=(cP kN).getD 0 .skip
def kf (l_:List aw):Nat→Nat→Int→Int
 | 0,_,cr=>cr
 | dC+1,i0,cr=>kf l_ dC (i0+1) (IntKind.i64.wrap (cr+(IntKind.i64.wrap (Int.tdiv ((List.length ((l_.g i0).worker):Nat):Int) 20))))
theorem uD {d:Nat} {h:aq} (bk:AV) (l_:List aw) (t:aH) (bU:Nat) (bC:bf h bk l_) (fw:bf h t.ar t.rows) (j_:aG.ok h t):∀(k_ i_:Nat) (cr:Int) (_:i_+k_=l_.length) (x:Nat→AV) (hh:aq) (aX:Tidy hh) (a_:Has h hh) (cg:hh.get bU=some (aP.cells [t.ar,(AV.int .i64 t.rest),(AV.int .i64 t.day)] 24 false)),cb (dH (d)) rp ⟨((x 0)::bk::(AV.ptr bU 0)::(x 3)::(x 4)::(AV.int .i64 cr)::(AV.int .i64 ((i_:Nat):Int))::rx x 7 28 []),hh,[],.no⟩ (.exit 0) hh (fun r y=>((y 0)::bk::(AV.ptr bU 0)::(y 3)::(y 4)::(AV.int .i64 r)::rx y 6 29 [])) (fun r=>True) (kf l_ k_ i_ cr)
 | 0,i0,cr,pB,x,hh,aX,a_,cg=>by
   have eQ:=bC.small
   have mf:=fw.small
   have rh:=aX _ _ cg
   have jG:dU (some (.slice 34)) (some bk)=some (AV.int .i64 ((l_.length:Nat):Int)):=(bC.has a_).len
   have q2:(decide (((i0:Nat):Int)<((l_.length:Nat):Int)))=false:=d!
   have ev:=pk (d) rp ((x 0)::bk::(AV.ptr bU 0)::(x 3)::(x 4)::(AV.int .i64 cr)::(AV.int .i64 ((i0:Nat):Int))::rx x 7 28 []) hh (.exit 0) hh (CN 2<|VV jG<|VV (bz 3 false false .i64 ((i0:Nat):Int) ((l_.length:Nat):Int))<|BB q2<|ZZ) k!
   exact cb.out cr rfl ev (b4.refl aX) trivial k!
 | dC+1,i0,cr,pB,x,hh,aX,a_,cg=>by
   have eQ:=bC.small
   have mf:=fw.small
   have rh:=aX _ _ cg
   have jG:dU (some (.slice 34)) (some bk)=some (AV.int .i64 ((l_.length:Nat):Int)):=(bC.has a_).len
   have q2:(decide (((i0:Nat):Int)<((l_.length:Nat):Int)))=true:=d!
   obtain ⟨p4,q5,w6⟩:=(bC.has a_).elem (i:=i0) o!
   have uW:ep env (some (.slice 34)) (some bk) (some (AV.int .i64 ((i0:Nat):Int)))=some (AV.ptr p4 q5):=w6
   have F7:b9 env hh 9 (AV.ptr p4 (q5+0))=some (AV.str ((l_.g i0).worker)):=(bC.has a_).part (t:=9) (j:=0) o! w6 k! rfl
   have sn7:((l_.g i0).worker).length<2^60:=((bC.has a_).ok (i:=i0) o!)
   have u8:=fV 3 false true i0 1 o!
   have ev:=pk (d) rp ((x 0)::bk::(AV.ptr bU 0)::(x 3)::(x 4)::(AV.int .i64 cr)::(AV.int .i64 ((i0:Nat):Int))::rx x 7 28 []) hh .normal hh (CN 2<|VV jG<|VV (bz 3 false false .i64 ((i0:Nat):Int) ((l_.length:Nat):Int))<|BB q2<|CN 3<|VV uW<|CC<|MM F7<|CN 5<|VV u8<|CC<|ZZ) k!
   exact cb.round (by simp only[kf,cond_true,cond_false]) ev (b4.refl aX) (fun x=>((x 0)::bk::(AV.ptr bU 0)::(x 3)::(x 4)::(AV.int .i64 (IntKind.i64.wrap (cr+(IntKind.i64.wrap (Int.tdiv ((List.length ((l_.g i0).worker):Nat):Int) 20)))))::(AV.int .i64 (((i0+1):Nat):Int))::rx x 7 28 [])) k! (fun x=>uD bk l_ t bU bC fw j_ dC (i0+1) (IntKind.i64.wrap (cr+(IntKind.i64.wrap (Int.tdiv ((List.length ((l_.g i0).worker):Nat):Int) 20)))) o! x hh aX a_ cg)
def iF (t:aH) (l_:List aw):Bool:=(bif (decide (100<((t.rows.length:Nat):Int))) then true else (bif (decide (200<((l_.length:Nat):Int))) then true else (decide (100<(kf l_ l_.length 0 0)))))
theorem JQ {d:Nat} {h:aq} {bk:AV} (t:aH) (l_:List aw) (g6:aG.ok h t) (cR:bf h bk l_) (di:Tidy h):dH (d+1) (.fn 4) [(AV.agg [t.ar,(AV.int .i64 t.rest),(AV.int .i64 t.day)]),bk] h= .ret (AV.bool (iF t l_)) h:=by
 have pH:=cR.small
 obtain ⟨h1,bJ,cK,lD,aO,dI⟩:=jA di (aP.cells [t.ar,(AV.int .i64 t.rest),(AV.int .i64 t.day)] 24 false)
 have bR:Has h h1:=dI
 obtain ⟨O',h3,hH,ib,Ue⟩:=uD (d:=d) (h:=h) bk l_ t h.nx cR g6 g6 l_.length 0 0 o! (fun k_=>(((AV.agg [t.ar,(AV.int .i64 t.rest),(AV.int .i64 t.day)])::bk::(AV.ptr h.nx 0)::AV.undef::(AV.bool false)::(AV.int .i64 0)::(AV.int .i64 0)::cx 28):List AV).getD k_ AV.undef) h1 cK bR aO
 have ql:=ib.y
 have Dn:h1.nx≤h3.nx:=ib.n
 have kY:Has h h3:=bR.trans ib.a
 have GU:dU (some (.slice 29)) (some t.ar)=some (AV.int .i64 ((t.rows.length:Nat):Int)):=g6.len
 rcases Bool.eq_false_or_eq_true (decide (100<((t.rows.length:Nat):Int))) with f0 | f0
 · have dY:=of_decide_eq_true f0
   have ev:=pk (d) kN ((AV.agg [t.ar,(AV.int .i64 t.rest),(AV.int .i64 t.day)])::bk::cx 33) h .ret h3 (NN bJ (fun i=>(AV.ptr i 0))<|CN 3<|LL hH<|CC<|MM (au 22 0 t.ar (ib.a _ _ aO) k!)<|VV GU<|VV (cI 3 false true .i64 ((t.rows.length:Nat):Int) 100)<|CC<|BB f0<|BB f0<|BB f0<|VV (aM (a:=some (AV.bool true)) (b:=some AV.undef) f0)<|CC<|TT<|TT<|CN 2<|ZZ) k!
   have e:iF t l_=true:=by simp only[iF,f0,cond_true,cond_false]
   rw[e]
   exact ay rfl (bb Tryz.func4 xm k! (.inr rfl) ev k!) kY rfl
 · have dY:=of_decide_eq_false f0
   have Qq:dU (some (.slice 34)) (some bk)=some (AV.int .i64 ((l_.length:Nat):Int)):=cR.len
   rcases Bool.eq_false_or_eq_true (decide (200<((l_.length:Nat):Int))) with f1 | f1
   · have gF:=of_decide_eq_true f1
     have ev:=pk (d) kN ((AV.agg [t.ar,(AV.int .i64 t.rest),(AV.int .i64 t.day)])::bk::cx 33) h .ret h3 (NN bJ (fun i=>(AV.ptr i 0))<|CN 3<|LL hH<|CC<|MM (au 22 0 t.ar (ib.a _ _ aO) k!)<|VV GU<|VV (cI 3 false true .i64 ((t.rows.length:Nat):Int) 100)<|CC<|BB f0<|CC<|BB f0<|VV Qq<|BB f0<|VV (cI 3 false true .i64 ((l_.length:Nat):Int) 200)<|VV (aL (a:=some (AV.bool true)) (b:=some (AV.bool (decide (200<((l_.length:Nat):Int))))) f0)<|CC<|BB f1<|BB f1<|VV (aM (a:=some (AV.bool true)) (b:=some AV.undef) f1)<|CC<|ZZ) k!
     have e:iF t l_=true:=by simp only[iF,f0,f1,cond_true,cond_false]
     rw[e]
     exact ay rfl (bb Tryz.func4 xm k! (.inr rfl) ev k!) kY rfl
   · have gF:=of_decide_eq_false f1
     have ev:=pk (d) kN ((AV.agg [t.ar,(AV.int .i64 t.rest),(AV.int .i64 t.day)])::bk::cx 33) h .ret h3 (NN bJ (fun i=>(AV.ptr i 0))<|CN 3<|LL hH<|CC<|MM (au 22 0 t.ar (ib.a _ _ aO) k!)<|VV GU<|VV (cI 3 false true .i64 ((t.rows.length:Nat):Int) 100)<|CC<|BB f0<|CC<|BB f0<|VV Qq<|BB f0<|VV (cI 3 false true .i64 ((l_.length:Nat):Int) 200)<|VV (aL (a:=some (AV.bool true)) (b:=some (AV.bool (decide (200<((l_.length:Nat):Int))))) f0)<|CC<|BB f1<|CC<|BB f1<|VV (cI 3 false true .i64 (kf l_ l_.length 0 0) 100)<|VV (aL (a:=some (AV.bool true)) (b:=some (AV.bool (decide (100<(kf l_ l_.length 0 0))))) f1)<|CC<|ZZ) k!
     have e:iF t l_=(decide (100<(kf l_ l_.length 0 0))):=by simp only[iF,f0,f1,cond_true,cond_false]
     rw[e]
     exact ay rfl (bb Tryz.func4 xm k! (.inr rfl) ev k!) kY rfl
theorem x9 (t:aH) (l:List aw) (w:List UInt8) (p m r:Int):(af t l w p m r).1.worker=w∨(af t l w p m r).1.worker=[]:=by
 have key:∀(c:Bool) (i:Int) (row:bn),(bif c then (aN i w p m row,(0:Int)) else ((⟨[],0,0,0,0⟩:aw),9)).1.worker=w∨(bif c then (aN i w p m row,(0:Int)) else ((⟨[],0,0,0,0⟩:aw),9)).1.worker=[]:=fun c i row=>by
  cases c
  · exact .inr rfl
  · exact .inl rfl
 unfold af
 cases (!decide ((bx t l w p m r)=0)) with
 | true=>exact .inr rfl
 | false=>
 cases (!((aA t p m).2)) with
 | true=>exact .inr rfl
 | false=>
 cases decide (0<((l.length:Nat):Int)) with
 | true=>exact key _ _ _
 | false=>exact key _ _ _
theorem DN {t:aH} {l:List aw} {w:List UInt8} {p m r:Int} (h:w.length<2^60):(af t l w p m r).1.worker.length<2^60:=by
 rcases x9 t l w p m r with e | e
 · rw[e];exact h
 · rw[e];exact (show (0:Nat)<2^60 by decide)
theorem xn {a b:Bool} {n:Nat} (h:(bif a then true else (bif b then true else decide (128≤((n:Nat):Int))))=false):n<128:=by
 cases a with
 | true=>cases h
 | false=>
   cases b with
   | true=>cases h
   | false=>have:=of_decide_eq_false h;omega
end Go.Proofs.aW
