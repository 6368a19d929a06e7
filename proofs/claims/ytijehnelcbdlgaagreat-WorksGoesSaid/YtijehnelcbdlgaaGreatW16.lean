import Derived.Test.YtijehnelcbdlgaaGreatW0
import Derived.Test.YtijehnelcbdlgaaGreatW1
import Derived.Test.YtijehnelcbdlgaaGreatW15
import Derived.Test.YtijehnelcbdlgaaGreatW13
namespace Go.Proofs.aM
open Go.Proofs Ab
noncomputable section
set_option maxRecDepth 100000
set_option maxHeartbeats 4000000
set_option linter.unusedVariables false
set_option linter.unusedSimpArgs false
theorem wZ {p:Prop} (h:p:=by first | omega | assumption | exact MG.zw | exact MG.sl | exact MG.rs | exact MG.tm):p:=h
def Eg:Code:=(Tryz.f13.body).getD .skip
theorem ahQ:Tryz.f13.body=some Eg:=by kernel_rfl
theorem amd {d:Nat} {h:az} {aJ:AV} (j:bP) (aj:List Int) (now ah bn:Int) (b7:aK.ok h j) (bA:bT h .i64 3 aJ aj) (NT:j.ab.length≤19∨64<j.ab.length) (bM:Tidy h):
 ∃(j2:bP) (z:AV) (l:List Int) (e:Int) (hk:az),cA (d+16) (.fn 13) [AV.agg [j.au,j.ar],aJ,(.int .i64 now),(.int .i64 ah),(.int .i64 bn)] h= .ret (AV.tuple [AV.agg [j2.au,j2.ar],z,.int .i64 e]) hk∧Tidy hk∧h.nx≤hk.nx∧Has h hk∧aK.ok hk j2∧bT hk .i64 3 z l∧Ef j aj now ah bn j2 l e:=by
 have oA:=bA.small
 have l7:=b7.1.small
 have l8:=b7.2.small
 obtain ⟨h1,dw,de,jW,bx,ca⟩:=gQ bM (aN.cells [j.au,j.ar] 25 false)
 have bD:=ca
 obtain ⟨h2,r7,mN,I4,ka,iM⟩:=gQ de (aN.cells [AV.aw,AV.aw] 25 false)
 have gm:=bD.trans iM
 have k3:=FZ (d:=d) j aj now ah bn (aK.mono gm b7) (bA.has gm) mN
 rcases bu (!decide ((bX j aj now ah bn)=0)) with f0 | f0
 · have ja:=Eu f0
   obtain ⟨h5,T6,mP,abN,Hc,yQ⟩:=j_ (t:=25) (n:=2) (i:=h1.nx) (L:=[AV.aw,AV.aw]) mN ka k! rfl rfl rfl
   have fO:=Has.bK gm yQ bM o!
   have ev:=pk (d+15) Eg ((AV.agg [j.au,j.ar])::aJ::(Zi now)::(Zi ah)::(Zi bn)::iW 46) h .ret h5 (NN dw (fun i=>(Pt i))<|NN r7 (fun i=>(Pt i))<|CN 2<|MM (aP 25 0 (AV.agg [j.au,j.ar]) (iM _ _ bx) k!)<|CN 4<|EE k3<|CN 2<|VV (kt 31 false true .i64 (bX j aj now ah bn) 0)<|BB f0<|CN 2<|SS T6<|CN 2<|ZZ) k!
   obtain ⟨hk,k1,k2,k3,k4,k5,k6⟩:=jY (P:=fun hk=>Tidy hk∧h.nx≤hk.nx∧Has h hk∧aK.ok hk GU∧bT hk .i64 3 .aw []) rfl (ug (a:=10) (r:=11) (q:=12) (t:=25) (i:=h1.nx) Tryz.func13 ahQ k! (.inr rfl) ev k! (aP 25 0 (AV.agg [AV.aw,AV.aw]) Hc k!)) ⟨mP,by omega,fO,⟨aO.nil,aO.nil⟩,bT.nil k! k!⟩ fun _ _=>⟨bM,jR _,Has.refl _,⟨aO.nil,aO.nil⟩,bT.nil k! k!⟩
   exact ⟨GU,.aw,[],_,hk,k1,k2,k3,k4,k5,k6,.inl ⟨ja,rfl,rfl,.inl rfl⟩⟩
 · have ja:=Ew f0
   have CF:=ja
   have M:=aeV CF
   have mn0:=M.n0
   have mn1:=M.n1
   have mn2:=M.n2
   obtain ⟨K9,h5,abP,mP,agh,aeW,Eh,apG⟩:=aeP (d:=d+12) j ah now bn (aK.mono gm b7) M.r0 M.r1 M.st M.szt M.sr M.szr M.po M.pn mN
   have fO:=(gm.trans aeW)
   have C6:=Eh.ok.1.scalar
   have MQ:=Eh.ok.2.scalar
   obtain ⟨h7,jw,dM,r5,dS,aX⟩:=j_ (t:=25) (n:=2) (i:=h1.nx) (L:=[K9.au,K9.ar]) mP (aeW _ _ ka) k! rfl rfl (kJ C6 (kJ MQ rfl))
   have cV:=Has.bK fO aX bM o!
   have OKJ:aK.ok h7 K9:=aac Eh.ok (b:=h1.nx) (fun o g=>⟨25,false,Option.some.inj (g.symm.trans (aeW _ _ ka))⟩) aX
   rcases bu (!(decide (((K9.af.g ah.toNat).off.length:Int)≤16))) with f1 | f1
   · have eB:=Eu f1
     obtain ⟨lY,C8,iU,Gy,vI,zu⟩:=j_ (t:=25) (n:=2) (i:=h1.nx) (L:=[AV.aw,AV.aw]) dM dS k! rfl rfl rfl
     have my:=Has.bK cV zu bM o!
     have ev:=pk (d+15) Eg ((AV.agg [j.au,j.ar])::aJ::(Zi now)::(Zi ah)::(Zi bn)::iW 46) h .ret lY (NN dw (fun i=>(Pt i))<|NN r7 (fun i=>(Pt i))<|CN 2<|MM (aP 25 0 (AV.agg [j.au,j.ar]) (iM _ _ bx) k!)<|CN 4<|EE k3<|CN 2<|VV (kt 31 false true .i64 (bX j aj now ah bn) 0)<|BM f0 (aP 25 0 (AV.agg [j.au,j.ar]) (iM _ _ bx) k!)<|CN 4<|EE abP<|CN 3<|SS jw<|CN 3<|BC f1<|SS C8<|CN 2<|ZZ) k!
     obtain ⟨hk,k1,k2,k3,k4,k5,k6⟩:=jY (P:=fun hk=>Tidy hk∧h.nx≤hk.nx∧Has h hk∧aK.ok hk GU∧bT hk .i64 3 .aw []) rfl (ug (a:=10) (r:=11) (q:=12) (t:=25) (i:=h1.nx) Tryz.func13 ahQ k! (.inr rfl) ev k! (aP 25 0 (AV.agg [AV.aw,AV.aw]) vI k!)) ⟨iU,by omega,my,⟨aO.nil,aO.nil⟩,bT.nil k! k!⟩ fun _ _=>⟨bM,jR _,Has.refl _,⟨aO.nil,aO.nil⟩,bT.nil k! k!⟩
     exact ⟨GU,.aw,[],_,hk,k1,k2,k3,k4,k5,k6,.inl ⟨by decide,rfl,rfl,.inr ⟨CF,_,_,Eh,.inl ⟨eB,rfl⟩⟩⟩⟩
   · have eB:=Ew f1
     have FW:=eB
     have MG:=M.go Eh FW
     have NT2:K9.ab.length≤19:=by have a_:=Eh.ab.1;have b_:=M.zw.nt;omega
     obtain ⟨z11,rk,Xw,km,agS⟩:=aek (d:=d+6) K9 aj now ah OKJ (bA.has cV) wZ wZ wZ wZ wZ wZ wZ dM
     have jy:=km.y
     have aiG:h7.nx≤rk.nx:=km.n
     have gG:=cV.trans km.a
     have aty:=agS.small
     rcases bu (!((lM K9 aj now ah).2)) with f2 | f2
     · obtain ⟨HR,S2,qI,aeX,zx,pE⟩:=j_ (t:=25) (n:=2) (i:=h1.nx) (L:=[AV.aw,AV.aw]) jy (km.a _ _ dS) k! rfl rfl rfl
       have qJ:=Has.bK gG pE bM o!
       have ev:=pk (d+15) Eg ((AV.agg [j.au,j.ar])::aJ::(Zi now)::(Zi ah)::(Zi bn)::iW 46) h .ret HR (NN dw (fun i=>(Pt i))<|NN r7 (fun i=>(Pt i))<|CN 2<|MM (aP 25 0 (AV.agg [j.au,j.ar]) (iM _ _ bx) k!)<|CN 4<|EE k3<|CN 2<|VV (kt 31 false true .i64 (bX j aj now ah bn) 0)<|BM f0 (aP 25 0 (AV.agg [j.au,j.ar]) (iM _ _ bx) k!)<|CN 4<|EE abP<|CN 3<|SS jw<|CN 3<|BM f1 (aP 25 0 (AV.agg [K9.au,K9.ar]) dS k!)<|CN 3<|EE Xw<|CN 7<|BC f2<|SS S2<|CN 2<|ZZ) k!
       obtain ⟨hk,k1,k2,k3,k4,k5,k6⟩:=jY (P:=fun hk=>Tidy hk∧h.nx≤hk.nx∧Has h hk∧aK.ok hk GU∧bT hk .i64 3 .aw []) rfl (ug (a:=10) (r:=11) (q:=12) (t:=25) (i:=h1.nx) Tryz.func13 ahQ k! (.inr rfl) ev k! (aP 25 0 (AV.agg [AV.aw,AV.aw]) zx k!)) ⟨qI,by omega,qJ,⟨aO.nil,aO.nil⟩,bT.nil k! k!⟩ fun _ _=>⟨bM,jR _,Has.refl _,⟨aO.nil,aO.nil⟩,bT.nil k! k!⟩
       exact ⟨GU,.aw,[],_,hk,k1,k2,k3,k4,k5,k6,.inl ⟨by decide,rfl,rfl,.inr ⟨CF,_,_,Eh,.inr ⟨FW,by simpa using f2,rfl⟩⟩⟩⟩
     · obtain ⟨HR,S2,qI,aeX,zx,pE⟩:=j_ (t:=25) (n:=2) (i:=h1.nx) (L:=[K9.au,K9.ar]) jy (km.a _ _ dS) k! rfl rfl (kJ C6 (kJ MQ rfl))
       have qJ:=Has.bK gG pE bM o!
       have HS:Has rk HR:=aeO (km.a _ _ dS) zx pE
       have ev:=pk (d+15) Eg ((AV.agg [j.au,j.ar])::aJ::(Zi now)::(Zi ah)::(Zi bn)::iW 46) h .ret HR (NN dw (fun i=>(Pt i))<|NN r7 (fun i=>(Pt i))<|CN 2<|MM (aP 25 0 (AV.agg [j.au,j.ar]) (iM _ _ bx) k!)<|CN 4<|EE k3<|CN 2<|VV (kt 31 false true .i64 (bX j aj now ah bn) 0)<|BM f0 (aP 25 0 (AV.agg [j.au,j.ar]) (iM _ _ bx) k!)<|CN 4<|EE abP<|CN 3<|SS jw<|CN 3<|BM f1 (aP 25 0 (AV.agg [K9.au,K9.ar]) dS k!)<|CN 3<|EE Xw<|CN 7<|BM f2 (aP 25 0 (AV.agg [K9.au,K9.ar]) (km.a _ _ dS) k!)<|CC<|SS S2<|CN 2<|ZZ) k!
       obtain ⟨hk,k1,k2,k3,k4,k5,k6⟩:=jY (P:=fun hk=>Tidy hk∧h.nx≤hk.nx∧Has h hk∧aK.ok hk K9∧bT hk .i64 3 z11 (lM K9 aj now ah).1) rfl (ug (a:=10) (r:=11) (q:=12) (t:=25) (i:=h1.nx) Tryz.func13 ahQ k! (.inr rfl) ev k! (aP 25 0 (AV.agg [K9.au,K9.ar]) zx k!)) ⟨qI,by omega,qJ,aK.mono HS (aK.mono km.a OKJ),(agS.has HS)⟩ fun _ v=>by
        have v2:AV.within h.nx 18 K9.ar=true:=by
         simp only[AV.within,List.all_cons,List.all_nil,Bool.and_true,Bool.and_eq_true] at v
         exact v.1.2
        exact (bI.aeM apG (by have:=Eh.len;have:=M.r0;have:=M.r1;omega) o! v2).elim
       exact ⟨K9,z11,(lM K9 aj now ah).1,_,hk,k1,k2,k3,k4,k5,k6,.inr ⟨rfl,CF,⟨_,Eh⟩,FW,by simpa using f2,rfl⟩⟩
def sq:Code:=(Tryz.f6.body).getD .skip
theorem Ns:Tryz.f6.body=some sq:=by kernel_rfl
def S3:Code:=(bl sq).getD 0 .skip
def S4:Code:=(bl sq).getD 1 .skip
def S5:Code:=(kT sq).getD 1 .skip
def mH (j:bP):Nat→Nat→Int→Int
 | 0,_,eY=>eY
 | dx+1,i0,eY=>mH j dx (i0+1) (IntKind.i64.wrap ((IntKind.i64.wrap (eY+(((j.af.g i0).off.length:Nat):Int)))+(IntKind.i64.wrap (Int.tdiv ((List.length ((j.af.g i0).name):Nat):Int) 20))))
theorem Ei {d:Nat} {h:az} (j:bP) (bj:Nat) (bp:aO h j.au j.ab) (cC:aO h j.ar j.af) (fI:aK.ok h j):∀(k_ i_:Nat) (eY:Int) (_:i_+k_=j.af.length) (x:Nat→AV) (hh:az) (aF:Tidy hh) (aA:Has h hh) (br:hh.get bj=some (aN.cells [j.au,j.ar] 25 false)),cr (cA (d)) S3 ⟨((x 0)::(x 1)::(Pt bj)::(x 3)::(x 4)::(Zi eY)::(Zn i_)::rx x 7 100 []),hh,[],.no⟩ (.exit 0) hh (fun r y=>((y 0)::(y 1)::(Pt bj)::(y 3)::(y 4)::(Zi r)::rx y 6 101 [])) (fun r=>True) (mH j k_ i_ eY)
 | 0,i0,eY,eZ,x,hh,aF,aA,br=>by
  have gd:=(cC.has aA).len
  have q2:(decide (((i0:Nat):Int)<((j.af.length:Nat):Int)))=false:=d!
  exact cr.out eY rfl (pk (d) _ _ hh _ hh (CN 2<|MM (aP 23 1 j.ar br k!)<|VV gd<|VV (bE 3 false false .i64 ((i0:Nat):Int) ((j.af.length:Nat):Int))<|BB q2<|ZZ) k!) (Grow.refl aF) trivial k!
 | dx+1,i0,eY,eZ,x,hh,aF,aA,br=>by
  have gN:=bp.small
  have mw:=cC.small
  have tD:=aF _ _ br
  have gd:=(cC.has aA).len
  have q2:(decide (((i0:Nat):Int)<((j.af.length:Nat):Int)))=true:=d!
  obtain ⟨p4,q5,oH⟩:=(cC.has aA).elem (i:=i0) o!
  have qm:=(cC.has aA).part (t:=43) (j:=2) o! oH k! rfl
  have ln7:=(((cC.has aA).ok (i:=i0) o!).2).len
  obtain ⟨p9,uL,GB⟩:=(cC.has aA).elem (i:=i0) o!
  have tG:=(cC.has aA).part (t:=9) (j:=0) o! GB k! rfl
  have au8:((j.af.g i0).name).length<2^60:=((cC.has aA).ok (i:=i0) o!).1
  have Y2:=(cC.has aA).same 19
  have WL:=(((cC.has aA).ok (i:=i0) o!).2).same 19
  have u15:=eA 3 false true i0 1 o!
  exact cr.round (by simp only[mH,ao,ai]) (pk (d) _ _ hh _ hh (CN 2<|MM (aP 23 1 j.ar br k!)<|VV gd<|VV (bE 3 false false .i64 ((i0:Nat):Int) ((j.af.length:Nat):Int))<|BB q2<|CN 2<|MM (aP 23 1 j.ar br k!)<|CC<|VV oH<|CC<|MM qm<|VV ln7<|CN 2<|MM (aP 23 1 j.ar br k!)<|CC<|VV GB<|CC<|MM tG<|CN 4<|HH (aP 23 1 j.ar br k!)<|HH Y2<|HH qm<|HH WL<|HH (aP 23 1 j.ar br k!)<|HH Y2<|HH tG<|HH (show AV.same 20 (AV.str (j.af.g i0).name) (AV.str (j.af.g i0).name)=true from j8 19 _)<|CC<|VV u15<|CC<|ZZ) k!) (Grow.refl aF) _ k! (fun x=>Ei j bj bp cC fI dx (i0+1) (IntKind.i64.wrap ((IntKind.i64.wrap (eY+(((j.af.g i0).off.length:Nat):Int)))+(IntKind.i64.wrap (Int.tdiv ((List.length ((j.af.g i0).name):Nat):Int) 20)))) o! x hh aF aA br)
def oC (j:bP):Nat→Nat→Int→Int
 | 0,_,iN=>iN
 | nK+1,i1,iN=>(bif (decide (iN<1000)) then oC j nK (i1+1) (IntKind.i64.wrap ((IntKind.i64.wrap ((IntKind.i64.wrap (iN+(((j.ab.g i1).aD.length:Nat):Int)))+(((j.ab.g i1).aB.length:Nat):Int)))+(IntKind.i64.wrap (Int.tdiv ((List.length ((j.ab.g i1).name):Nat):Int) 20)))) else iN)
theorem Ej {d:Nat} {h:az} (j:bP) (b6:Nat) (eP:aO h j.au j.ab) (dW:aO h j.ar j.af) (mQ:aK.ok h j):∀(k_ i_:Nat) (iN:Int) (_:i_+k_=j.ab.length) (x:Nat→AV) (hh:az) (aF:Tidy hh) (aA:Has h hh) (cz:hh.get b6=some (aN.cells [j.au,j.ar] 25 false)),cr (cA (d)) S4 ⟨((x 0)::(x 1)::(Pt b6)::(x 3)::(x 4)::(Zi iN)::(x 6)::(Zn i_)::rx x 8 99 []),hh,[],.no⟩ (.exit 2) hh (fun r y=>((y 0)::(y 1)::(Pt b6)::(y 3)::(y 4)::(Zi r)::rx y 6 101 [])) (fun r=>True) (oC j k_ i_ iN)
 | 0,i1,iN,eZ,x,hh,aF,aA,cz=>by
  have gd:=(eP.has aA).len
  have q2:(decide (((i1:Nat):Int)<((j.ab.length:Nat):Int)))=false:=d!
  exact cr.out iN rfl (pk (d) _ _ hh _ hh (CN 2<|MM (aP 22 0 j.au cz k!)<|VV gd<|VV (bE 3 false false .i64 ((i1:Nat):Int) ((j.ab.length:Nat):Int))<|CC<|BB q2<|BV q2 (vd false q2)<|FF<|ZZ) k!) (Grow.refl aF) trivial k!
 | nK+1,i1,iN,eZ,x,hh,aF,aA,cz=>by
  have pV:=eP.small
  have rC:=dW.small
  have E2:=aF _ _ cz
  have gd:=(eP.has aA).len
  have q2:(decide (((i1:Nat):Int)<((j.ab.length:Nat):Int)))=true:=d!
  have ei:=fun {al ps} (k:Pk al _ ps)=>(CN 2<|MM (aP 22 0 j.au cz k!)<|VV gd<|VV (bE 3 false false .i64 ((i1:Nat):Int) ((j.ab.length:Nat):Int))<|CC<|BC q2<|BV q2 (bE 3 false true .i64 iN 1000)<|VV (tp (decide (iN<1000)) false q2)<|k:Pk _ [] ps)
  rcases bu (decide (iN<1000)) with f1 | f1
  · have eB:=jv f1
    obtain ⟨p5,q6,T5⟩:=(eP.has aA).elem (i:=i1) o!
    have Tf:=(eP.has aA).part (t:=26) (j:=2) o! T5 k! rfl
    have ln8:=(((eP.has aA).ok (i:=i1) o!).2.1).len
    obtain ⟨p10,q11,ix9⟩:=(eP.has aA).elem (i:=i1) o!
    have Bs:=(eP.has aA).part (t:=46) (j:=3) o! ix9 k! rfl
    have Ue:=(((eP.has aA).ok (i:=i1) o!).2.2).len
    obtain ⟨p15,q16,apH⟩:=(eP.has aA).elem (i:=i1) o!
    have Ri:=(eP.has aA).part (t:=9) (j:=0) o! apH k! rfl
    have au9:((j.ab.g i1).name).length<2^60:=((eP.has aA).ok (i:=i1) o!).1
    have c19:=(eP.has aA).same 19
    have Xd:=(((eP.has aA).ok (i:=i1) o!).2.1).same 19
    have c21:=(((eP.has aA).ok (i:=i1) o!).2.2).same 19
    have u22:=eA 3 false true i1 1 o!
    exact cr.round (by simp only[oC,f1,ao,ai]) (pk (d) _ _ hh _ hh (ei<|BB f1<|CN 2<|MM (aP 22 0 j.au cz k!)<|CC<|VV T5<|CC<|MM Tf<|VV ln8<|CN 2<|MM (aP 22 0 j.au cz k!)<|CC<|VV ix9<|CC<|MM Bs<|VV Ue<|CN 2<|MM (aP 22 0 j.au cz k!)<|CC<|VV apH<|CC<|MM Ri<|CN 4<|HH (aP 22 0 j.au cz k!)<|HH c19<|HH Tf<|HH Xd<|HH (aP 22 0 j.au cz k!)<|HH c19<|HH Bs<|HH c21<|HH (aP 22 0 j.au cz k!)<|HH c19<|HH Ri<|HH (show AV.same 20 (AV.str (j.ab.g i1).name) (AV.str (j.ab.g i1).name)=true from j8 19 _)<|CC<|VV u22<|CC<|ZZ) k!) (Grow.refl aF) _ k! (fun x=>Ej j b6 eP dW mQ nK (i1+1) (IntKind.i64.wrap ((IntKind.i64.wrap ((IntKind.i64.wrap (iN+(((j.ab.g i1).aD.length:Nat):Int)))+(((j.ab.g i1).aB.length:Nat):Int)))+(IntKind.i64.wrap (Int.tdiv ((List.length ((j.ab.g i1).name):Nat):Int) 20)))) o! x hh aF aA cz)
  · exact cr.out iN (by simp only[oC,f1,ao,ai]) (pk (d) _ _ hh _ hh (ei<|BB f1<|ZZ) k!) (Grow.refl aF) trivial k!
def iI (j:bP) (ab:Int):Bool:=(bif (bif (decide (ab<((j.ab.length:Nat):Int))) then (bif (decide (((j.ab.length:Nat):Int)≤64)) then true else (bif (decide (80<((j.ab.length:Nat):Int))) then true else (bif (decide (4<((j.af.length:Nat):Int))) then (bif (decide (((j.af.length:Nat):Int)≤16)) then true else (decide (20<((j.af.length:Nat):Int)))) else (decide (20<((j.af.length:Nat):Int)))))) else (bif (decide (80<((j.ab.length:Nat):Int))) then true else (bif (decide (4<((j.af.length:Nat):Int))) then (bif (decide (((j.af.length:Nat):Int)≤16)) then true else (decide (20<((j.af.length:Nat):Int)))) else (decide (20<((j.af.length:Nat):Int)))))) then true else (decide (120<(oC j j.ab.length 0 (mH j j.af.length 0 0)))))
theorem aai {d:Nat} {h:az} (j:bP) (ab:Int) (b7:aK.ok h j) (bM:Tidy h):cA (d+1) (.fn 6) [(AV.agg [j.au,j.ar]),(Zi ab)] h= .ret (AV.bool (iI j ab)) h:=by
 obtain ⟨h1,dw,de,jW,bx,ca⟩:=gQ bM (aN.cells [j.au,j.ar] 25 false)
 have bD:=ca
 obtain ⟨Qg,yS⟩:∃Qg:Nat→AV,Ev env (cA (d)) S5 ⟨((AV.agg [j.au,j.ar])::(Zi ab)::(Pt h.nx)::aL::(AV.bool false)::iW 102),h1,[],.no⟩ .normal ⟨((AV.agg [j.au,j.ar])::(Zi ab)::(Pt h.nx)::aL::(AV.bool false)::aL::aL::aL::rx Qg 8 34 ((AV.bool (bif (decide (ab<((j.ab.length:Nat):Int))) then (bif (decide (((j.ab.length:Nat):Int)≤64)) then true else (bif (decide (80<((j.ab.length:Nat):Int))) then true else (bif (decide (4<((j.af.length:Nat):Int))) then (bif (decide (((j.af.length:Nat):Int)≤16)) then true else (decide (20<((j.af.length:Nat):Int)))) else (decide (20<((j.af.length:Nat):Int)))))) else (bif (decide (80<((j.ab.length:Nat):Int))) then true else (bif (decide (4<((j.af.length:Nat):Int))) then (bif (decide (((j.af.length:Nat):Int)≤16)) then true else (decide (20<((j.af.length:Nat):Int)))) else (decide (20<((j.af.length:Nat):Int)))))))::iW 64)),h1,[],.no⟩:=by
  have JH:=b7.1.len
  have gK:=fun {al ps} (k:Pk al _ ps)=>(CC<|MM (aP 22 0 j.au bx k!)<|VV JH<|CC<|VV (gz 3 false false .i64 ((j.ab.length:Nat):Int) ab)<|CC<|k:Pk _ [] ps)
  rcases bu (decide (ab<((j.ab.length:Nat):Int))) with f0 | f0
  · have RQ:=b7.1.len
    have n9:=fun {al ps} (k:Pk al _ ps)=>(gK<|BC f0<|BM f0 (aP 22 0 j.au bx k!)<|BV f0 RQ<|BV f0 (tx 3 false true .i64 ((j.ab.length:Nat):Int) 64)<|VV (tp (decide (((j.ab.length:Nat):Int)≤64)) false f0)<|CC<|k:Pk _ [] ps)
    rcases bu (decide (((j.ab.length:Nat):Int)≤64)) with f1 | f1
    · rw[show (bif (decide (ab<((j.ab.length:Nat):Int))) then (bif (decide (((j.ab.length:Nat):Int)≤64)) then true else (bif (decide (80<((j.ab.length:Nat):Int))) then true else (bif (decide (4<((j.af.length:Nat):Int))) then (bif (decide (((j.af.length:Nat):Int)≤16)) then true else (decide (20<((j.af.length:Nat):Int)))) else (decide (20<((j.af.length:Nat):Int)))))) else (bif (decide (80<((j.ab.length:Nat):Int))) then true else (bif (decide (4<((j.af.length:Nat):Int))) then (bif (decide (((j.af.length:Nat):Int)≤16)) then true else (decide (20<((j.af.length:Nat):Int)))) else (decide (20<((j.af.length:Nat):Int))))))=true by simp only[f0,f1,ao,ai]]
      exact j9 (pk (d) _ _ h1 _ h1 (n9<|BB f1<|BB f1<|BB f1<|BV f1 (tR true f1)<|CC<|TT<|TT<|TT<|TT<|TT<|TT<|CN 2<|TT<|TT<|TT<|TT<|CC<|ZZ) k!) k!
    · have ln6:=b7.1.len
      have s5:=fun {al ps} (k:Pk al _ ps)=>(n9<|BC f1<|BM f1 (aP 22 0 j.au bx k!)<|BV f1 ln6<|BV f1 (gz 3 false true .i64 ((j.ab.length:Nat):Int) 80)<|VV (dD (a:=some (AV.bool true)) (b:=some (AV.bool (decide (80<((j.ab.length:Nat):Int))))) f1)<|CC<|k:Pk _ [] ps)
      rcases bu (decide (80<((j.ab.length:Nat):Int))) with f2 | f2
      · rw[EX f0,Et f1,EX f2]
        exact j9 (pk (d) _ _ h1 _ h1 (s5<|BB f2<|BB f2<|BB f2<|BB f2<|BB f2<|BV f2 (tR true f2)<|CC<|TT<|TT<|TT<|TT<|CC<|ZZ) k!) k!
      · have ln8:=b7.2.len
        have vR:=fun {al ps} (k:Pk al _ ps)=>(s5<|BC f2<|BM f2 (aP 23 1 j.ar bx k!)<|BV f2 ln8<|BV f2 (gz 3 false true .i64 ((j.af.length:Nat):Int) 4)<|BC f2<|k:Pk _ [] ps)
        rcases bu (decide (4<((j.af.length:Nat):Int))) with f3 | f3
        · have uN:=b7.2.len
          have Fw:=fun {al ps} (k:Pk al _ ps)=>(vR<|BC f3<|BM f3 (aP 23 1 j.ar bx k!)<|BV f3 uN<|BV f3 (tx 3 false true .i64 ((j.af.length:Nat):Int) 16)<|BV f2 (tp (decide (((j.af.length:Nat):Int)≤16)) false f3)<|VV (dD (a:=some (AV.bool true)) (b:=some (AV.bool (decide (((j.af.length:Nat):Int)≤16)))) f2)<|CC<|k:Pk _ [] ps)
          rcases bu (decide (((j.af.length:Nat):Int)≤16)) with f4 | f4
          · rw[EX f0,Et f1,Et f2,EX f3,EX f4]
            exact j9 (pk (d) _ _ h1 _ h1 (Fw<|BB f4<|BB f4<|BB f4<|BV f4 (tR true f4)<|ZZ) k!) k!
          · have Uv:=b7.2.len
            rw[EX f0,Et f1,Et f2,EX f3,Et f4]
            exact j9 (pk (d) _ _ h1 _ h1 (Fw<|BC f4<|BM f4 (aP 23 1 j.ar bx k!)<|BV f4 Uv<|BV f4 (gz 3 false true .i64 ((j.af.length:Nat):Int) 20)<|VV (dD (a:=some (AV.bool true)) (b:=some (AV.bool (decide (20<((j.af.length:Nat):Int))))) f4)<|ZZ) k!) k!
        · have uN:=b7.2.len
          rw[show (bif (decide (ab<((j.ab.length:Nat):Int))) then (bif (decide (((j.ab.length:Nat):Int)≤64)) then true else (bif (decide (80<((j.ab.length:Nat):Int))) then true else (bif (decide (4<((j.af.length:Nat):Int))) then (bif (decide (((j.af.length:Nat):Int)≤16)) then true else (decide (20<((j.af.length:Nat):Int)))) else (decide (20<((j.af.length:Nat):Int)))))) else (bif (decide (80<((j.ab.length:Nat):Int))) then true else (bif (decide (4<((j.af.length:Nat):Int))) then (bif (decide (((j.af.length:Nat):Int)≤16)) then true else (decide (20<((j.af.length:Nat):Int)))) else (decide (20<((j.af.length:Nat):Int))))))=(decide (20<((j.af.length:Nat):Int))) by simp only[f0,f1,f2,f3,ao,ai]]
          exact j9 (pk (d) _ _ h1 _ h1 (vR<|BB f3<|BB f3<|BB f3<|BB f3<|BV f2 (vd false f3)<|VV (pcf true false f2)<|CC<|FF<|CC<|FF<|MM (aP 23 1 j.ar bx k!)<|FF<|VV uN<|FF<|VV (gz 3 false true .i64 ((j.af.length:Nat):Int) 20)<|CC<|ZZ) k!) k!
  · have RQ:=b7.1.len
    have Ex:=fun {al ps} (k:Pk al _ ps)=>(gK<|BB f0<|BB f0<|BB f0<|BV f0 (vd false f0)<|CC<|FF<|CC<|FF<|MM (aP 22 0 j.au bx k!)<|FF<|VV RQ<|FF<|VV (gz 3 false true .i64 ((j.ab.length:Nat):Int) 80)<|CN 2<|k:Pk _ [] ps)
    rcases bu (decide (80<((j.ab.length:Nat):Int))) with f1 | f1
    · rw[show (bif (decide (ab<((j.ab.length:Nat):Int))) then (bif (decide (((j.ab.length:Nat):Int)≤64)) then true else (bif (decide (80<((j.ab.length:Nat):Int))) then true else (bif (decide (4<((j.af.length:Nat):Int))) then (bif (decide (((j.af.length:Nat):Int)≤16)) then true else (decide (20<((j.af.length:Nat):Int)))) else (decide (20<((j.af.length:Nat):Int)))))) else (bif (decide (80<((j.ab.length:Nat):Int))) then true else (bif (decide (4<((j.af.length:Nat):Int))) then (bif (decide (((j.af.length:Nat):Int)≤16)) then true else (decide (20<((j.af.length:Nat):Int)))) else (decide (20<((j.af.length:Nat):Int))))))=true by simp only[f0,f1,ao,ai]]
      exact j9 (pk (d) _ _ h1 _ h1 (Ex<|BB f1<|BB f1<|BB f1<|BB f1<|BB f1<|BV f1 (tR true f1)<|CC<|TT<|TT<|TT<|TT<|CC<|ZZ) k!) k!
    · have ln6:=b7.2.len
      have Hp:=fun {al ps} (k:Pk al _ ps)=>(Ex<|BC f1<|BM f1 (aP 23 1 j.ar bx k!)<|BV f1 ln6<|BV f1 (gz 3 false true .i64 ((j.af.length:Nat):Int) 4)<|BC f1<|k:Pk _ [] ps)
      rcases bu (decide (4<((j.af.length:Nat):Int))) with f2 | f2
      · have ln8:=b7.2.len
        have LP:=fun {al ps} (k:Pk al _ ps)=>(Hp<|BC f2<|BM f2 (aP 23 1 j.ar bx k!)<|BV f2 ln8<|BV f2 (tx 3 false true .i64 ((j.af.length:Nat):Int) 16)<|BV f1 (tp (decide (((j.af.length:Nat):Int)≤16)) false f2)<|VV (dD (a:=some (AV.bool true)) (b:=some (AV.bool (decide (((j.af.length:Nat):Int)≤16)))) f1)<|CC<|k:Pk _ [] ps)
        rcases bu (decide (((j.af.length:Nat):Int)≤16)) with f3 | f3
        · rw[Et f0,Et f1,EX f2,EX f3]
          exact j9 (pk (d) _ _ h1 _ h1 (LP<|BB f3<|BB f3<|BB f3<|BV f3 (tR true f3)<|ZZ) k!) k!
        · have uN:=b7.2.len
          rw[show (bif (decide (ab<((j.ab.length:Nat):Int))) then (bif (decide (((j.ab.length:Nat):Int)≤64)) then true else (bif (decide (80<((j.ab.length:Nat):Int))) then true else (bif (decide (4<((j.af.length:Nat):Int))) then (bif (decide (((j.af.length:Nat):Int)≤16)) then true else (decide (20<((j.af.length:Nat):Int)))) else (decide (20<((j.af.length:Nat):Int)))))) else (bif (decide (80<((j.ab.length:Nat):Int))) then true else (bif (decide (4<((j.af.length:Nat):Int))) then (bif (decide (((j.af.length:Nat):Int)≤16)) then true else (decide (20<((j.af.length:Nat):Int)))) else (decide (20<((j.af.length:Nat):Int))))))=(decide (20<((j.af.length:Nat):Int))) by simp only[f0,f1,f2,f3,ao,ai]]
          exact j9 (pk (d) _ _ h1 _ h1 (LP<|BC f3<|BM f3 (aP 23 1 j.ar bx k!)<|BV f3 uN<|BV f3 (gz 3 false true .i64 ((j.af.length:Nat):Int) 20)<|VV (dD (a:=some (AV.bool true)) (b:=some (AV.bool (decide (20<((j.af.length:Nat):Int))))) f3)<|ZZ) k!) k!
      · have ln8:=b7.2.len
        rw[Et f0,Et f1,Et f2]
        exact j9 (pk (d) _ _ h1 _ h1 (Hp<|BB f2<|BB f2<|BB f2<|BB f2<|BV f1 (vd false f2)<|VV (pcf true false f1)<|CC<|FF<|CC<|FF<|MM (aP 23 1 j.ar bx k!)<|FF<|VV ln8<|FF<|VV (gz 3 false true .i64 ((j.af.length:Nat):Int) 20)<|CC<|ZZ) k!) k!
 rcases bu (bif (decide (ab<((j.ab.length:Nat):Int))) then (bif (decide (((j.ab.length:Nat):Int)≤64)) then true else (bif (decide (80<((j.ab.length:Nat):Int))) then true else (bif (decide (4<((j.af.length:Nat):Int))) then (bif (decide (((j.af.length:Nat):Int)≤16)) then true else (decide (20<((j.af.length:Nat):Int)))) else (decide (20<((j.af.length:Nat):Int)))))) else (bif (decide (80<((j.ab.length:Nat):Int))) then true else (bif (decide (4<((j.af.length:Nat):Int))) then (bif (decide (((j.af.length:Nat):Int)≤16)) then true else (decide (20<((j.af.length:Nat):Int)))) else (decide (20<((j.af.length:Nat):Int)))))) with f0 | f0
 · have e:iI j ab=true:=by simp only[iI,f0,ao,ai]
   rw[e]
   exact aG rfl (aY Tryz.func6 Ns rfl (.inr rfl) (pk (d) _ _ h _ h1 (NN dw (fun i=>(Pt i))<|CC<|LL yS<|BC f0<|ZZ) k!) k!) bD rfl
 · obtain ⟨Dl,h5,ep,jf,W1⟩:=Ei (d:=d) (h:=h) j h.nx b7.1 b7.2 b7 j.af.length 0 0 o! (dr ((AV.agg [j.au,j.ar])::(Zi ab)::(Pt h.nx)::aL::(AV.bool false)::(Zi 0)::(Zi 0)::aL::rx Qg 8 34 ((AV.bool (bif (decide (ab<((j.ab.length:Nat):Int))) then (bif (decide (((j.ab.length:Nat):Int)≤64)) then true else (bif (decide (80<((j.ab.length:Nat):Int))) then true else (bif (decide (4<((j.af.length:Nat):Int))) then (bif (decide (((j.af.length:Nat):Int)≤16)) then true else (decide (20<((j.af.length:Nat):Int)))) else (decide (20<((j.af.length:Nat):Int)))))) else (bif (decide (80<((j.ab.length:Nat):Int))) then true else (bif (decide (4<((j.af.length:Nat):Int))) then (bif (decide (((j.af.length:Nat):Int)≤16)) then true else (decide (20<((j.af.length:Nat):Int)))) else (decide (20<((j.af.length:Nat):Int)))))))::iW 64))) h1 de bD bx
   have mP:=jf.y
   have fO:=bD.trans jf.a
   obtain ⟨yl6,h7,wM,adt,agW⟩:=Ej (d:=d) (h:=h) j h.nx b7.1 b7.2 b7 j.ab.length 0 (mH j j.af.length 0 0) o! (dr ((Dl 0)::(Dl 1)::(Pt h.nx)::(Dl 3)::(Dl 4)::(Zi (mH j j.af.length 0 0))::(Dl 6)::(Zi 0)::rx Dl 8 99 [])) h5 mP fO (jf.a _ _ bx)
   have cV:=fO.trans adt.a
   have e:iI j ab=(decide (120<(oC j j.ab.length 0 (mH j j.af.length 0 0)))):=by simp only[iI,f0,ao,ai]
   rw[e]
   exact aG rfl (aY Tryz.func6 Ns rfl (.inr rfl) (pk (d) _ _ h _ h7 (NN dw (fun i=>(Pt i))<|CC<|LL yS<|BB f0<|CN 2<|LL ep<|CC<|LL wM<|CC<|VV (gz 3 false true .i64 (oC j j.ab.length 0 (mH j j.af.length 0 0)) 120)<|CC<|ZZ) k!) k!) cV rfl
def GV:Code:=(Tryz.f10.body).getD .skip
theorem K3:Tryz.f10.body=some GV:=by kernel_rfl
def VO:Code:=(bl GV).getD 0 .skip
def oO (a:List Int) (b:List Int):Nat→Nat→Option (Bool)
 | 0,_=>none
 | dx+1,i0=>(bif (!decide ((a.g i0)=(b.g i0))) then some false else oO a b dx (i0+1))
theorem GW {d:Nat} {h:az} (aV:AV) (bV:AV) (a:List Int) (b:List Int) (bp:bT h .i64 3 aV a) (cC:bT h .i64 3 bV b) (fU:a.length=b.length):∀(k_ i_:Nat) (_:i_+k_=a.length) (x:Nat→AV) (hh:az) (aF:Tidy hh) (aA:Has h hh),aC (cA (d)) VO ⟨(aV::bV::rx x 2 3 ((Zn i_)::rx x 6 20 [])),hh,[],.no⟩ (.exit 0) hh (fun y=>(aV::bV::rx y 2 24 [])) (fun r y=>(aV::bV::(y 2)::(y 3)::(AV.bool r)::rx y 5 21 [])) (oO a b k_ i_)
 | 0,i0,eZ,x,hh,aF,aA=>by
  have gd:=(bp.has aA).len
  have q2:(decide (((i0:Nat):Int)<((a.length:Nat):Int)))=false:=d!
  exact aC.out rfl (pk (d) _ _ hh _ hh (CN 2<|VV gd<|VV (bE 3 false false .i64 ((i0:Nat):Int) ((a.length:Nat):Int))<|BB q2<|ZZ) k!) (Grow.refl aF) k!
 | dx+1,i0,eZ,x,hh,aF,aA=>by
  have gN:=bp.small
  have mw:=cC.small
  have gd:=(bp.has aA).len
  have q2:(decide (((i0:Nat):Int)<((a.length:Nat):Int)))=true:=d!
  obtain ⟨p4,q5,oH,_⟩:=(bp.has aA).elem (i:=i0) o!
  have qm:=(bp.has aA).load o! oH
  obtain ⟨p8,q9,GC,_⟩:=(cC.has aA).elem (i:=i0) o!
  have vn:=(cC.has aA).load o! GC
  have ei:=fun {al ps} (k:Pk al _ ps)=>(CN 2<|VV gd<|VV (bE 3 false false .i64 ((i0:Nat):Int) ((a.length:Nat):Int))<|BB q2<|CN 2<|VV oH<|MM qm<|CN 2<|VV GC<|MM vn<|VV (kt 3 false false .i64 (a.g i0) (b.g i0))<|HH qm<|HH (show AV.same 20 (Zi (a.g i0)) (Zi (a.g i0))=true from aS 19 _ _)<|HH vn<|HH (show AV.same 20 (Zi (b.g i0)) (Zi (b.g i0))=true from aS 19 _ _)<|k:Pk _ [] ps)
  rcases bu (!decide ((a.g i0)=(b.g i0))) with f1 | f1
  · have eB:=Eu f1
    exact aC.ret false (by simp only[oO,f1,ao,ai]) (pk (d) _ _ hh _ hh (ei<|BC f1<|ZZ) k!) (Grow.refl aF) k!
  · have eB:=Ew f1
    have u12:=eA 3 false true i0 1 o!
    exact aC.round (by simp only[oO,f1,ao,ai]) (pk (d) _ _ hh _ hh (ei<|BC f1<|VV u12<|CC<|ZZ) k!) (Grow.refl aF) _ k! (fun x=>GW aV bV a b bp cC fU dx (i0+1) o! x hh aF aA)
def nD (a:List Int) (b:List Int):Bool:=(bif (!decide (((a.length:Nat):Int)=((b.length:Nat):Int))) then false else (match (oO a b a.length 0) with | none=>true | some Bz=>Bz))
theorem aeY {d:Nat} {h:az} {aV bV:AV} (a:List Int) (b:List Int) (X2:bT h .i64 3 aV a) (X3:bT h .i64 3 bV b) (bM:Tidy h):cA (d+1) (.fn 10) [aV,bV] h= .ret (AV.bool (nD a b)) h:=by
 have auF:=X2.small
 have auG:=X3.small
 have gd:=X2.len
 have JH:=X3.len
 have gK:=fun {al ps} (k:Pk al _ ps)=>(CN 2<|VV gd<|CC<|VV JH<|VV (kt 3 false false .i64 ((a.length:Nat):Int) ((b.length:Nat):Int))<|k:Pk _ [] ps)
 rcases bu (!decide (((a.length:Nat):Int)=((b.length:Nat):Int))) with f0 | f0
 · have ja:=Eu f0
   have e:nD a b=false:=by simp only[nD,f0,ao,ai]
   rw[e]
   exact aG rfl (aY Tryz.func10 K3 rfl (.inr rfl) (pk (d) _ _ h _ h (gK<|BC f0<|ZZ) k!) k!) (Has.refl _) rfl
 · have ja:=Ew f0
   have JC:=GW (d:=d) (h:=h) aV bV a b X2 X3 o! a.length 0 o! (dr (aV::bV::aL::aL::(AV.bool false)::(Zi 0)::aV::(Zn a.length)::bV::(Zn b.length)::(AV.bool (!decide (((a.length:Nat):Int)=((b.length:Nat):Int))))::iW 15)) h bM (Has.refl _)
   cases dX:oO a b a.length 0 with
   | none=>
    obtain ⟨Dl,h5,ep,jf⟩:=aC.n dX JC
    have fO:=jf.a
    have e:nD a b=true:=by simp only[nD,f0,dX,ao,ai]
    rw[e]
    exact aG rfl (aY Tryz.func10 K3 rfl (.inr rfl) (pk (d) _ _ h _ h5 (gK<|BC f0<|LL ep<|CC<|ZZ) k!) k!) fO rfl
   | some Bz=>
    obtain ⟨Dl,h5,ep,jf⟩:=aC.r dX JC
    have fO:=jf.a
    have e:nD a b=Bz:=by simp only[nD,f0,dX,ao,ai]
    rw[e]
    exact aG rfl (aY Tryz.func10 K3 rfl (.inr rfl) (pk (d) _ _ h _ h5 (gK<|BC f0<|LL ep<|ZZ) k!) k!) fO rfl
end
end Go.Proofs.aM
