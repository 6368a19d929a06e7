import Derived.Test.YtijehnelcbdlgaaGreatW0
import Derived.Test.YtijehnelcbdlgaaGreatW6
import Derived.Test.YtijehnelcbdlgaaGreatW8
import Derived.Test.YtijehnelcbdlgaaGreatW7
import Derived.Test.YtijehnelcbdlgaaGreatW5
import Derived.Test.YtijehnelcbdlgaaGreatW1
import Derived.Test.YtijehnelcbdlgaaGreatW3
namespace Go.Proofs.aE
open Go.Proofs Ab
noncomputable section
set_option maxRecDepth 100000
set_option maxHeartbeats 4000000
set_option linter.unusedVariables false
set_option linter.unusedSimpArgs false
def mc:Code:=(Tryz.f8.body).getD .skip
theorem zn:Tryz.f8.body=some mc:=by kernel_rfl
def Jp:Code:=(bz mc).getD 0 .skip
theorem Wq {call:a_} {c:Code} {s:St} {ex:kR} {h0 hh:ak} {b6:Nat} {tn:Int×Bool×Int→AV→(Nat→AV)→List AV} {Q:Int×Bool×Int→ak→Prop} {o:(Int×Bool×Int)⊕ Unit} (k:Kept b6 h0 hh) (x:bI (σ:=Int×Bool×Int) (ρ:=Unit) call c s ex hh tn (fun _ _ _=> []) (fun v _ hk=>Q v hk∧Kept b6 hh hk) (fun _ _ _=>True) o):bI (σ:=Int×Bool×Int) (ρ:=Unit) call c s ex hh tn (fun _ _ _=> []) (fun v _ hk=>Q v hk∧Kept b6 h0 hk) (fun _ _ _=>True) o:=by
 cases o with
 | inl v=>obtain ⟨z,y,hk,e,y1,n1,q,kp⟩:=x;exact ⟨z,y,hk,e,y1,n1,q,k.trans kp⟩
 | inr r=>exact x
def kz (j:cF):Nat→Nat→Int→Bool→Int→Int×Bool×Int
 | 0,_,m,b,r=>(m,b,r)
 | k+1,i,m,b,r=>bif decide (m<eg j ((i:Nat):Int)) then kz j k (i+1) (eg j ((i:Nat):Int)) false ((i:Nat):Int) else kz j k (i+1) m b r
theorem S9 {d:Nat} {h:ak} {j:cF} {zc:AV} {b1 b2 b6:Nat} (bM:Tidy h) (bF:aB.ok h j) (n1:h.nx≤b1) (n6:h.nx≤b6) (d16:b1≠b6):∀(k i0:Nat) (m:Int) (b:Bool) (r:Int) (x:Nat→AV) (hh:ak) (fK:i0+k=j.ae.length) (az:Tidy hh) (aw:Has h hh) (gv:h.nx≤hh.nx) (g1:hh.get b1=some (.cells [j.ah,j.ag] 25 false)) (g6:hh.get b6=some (.cells [.int .i64 m,cz b zc,.int .i64 r] 28 false)),
 bI (σ:=Int×Bool×Int) (ρ:=Unit) (cA (d+199)) Jp ⟨((x 0)::(Pt b1)::(Pt b2)::rx x 3 3 ((Pt b6)::rx x 7 28 ((Zn j.ae.length)::(Zn i0)::rx x 37 14 []))),hh,[],.no⟩ (.exit 0) hh (fun v z y=>((y 0)::(Pt b1)::(Pt b2)::rx y 3 3 ((Pt b6)::rx y 7 28 ((Zn j.ae.length)::rx y 36 15 [])))) (fun _ _ _=> []) (fun v z hk=>(Has h hk∧hk.get b1=some (.cells [j.ah,j.ag] 25 false)∧hk.get b6=some (.cells [.int .i64 v.1,cz v.2.1 zc,.int .i64 v.2.2] 28 false))∧Kept b6 hh hk) (fun _ _ _=>True) (Sum.inl (kz j k i0 m b r))
 | 0,i0,m,b,r,x,hh,fK,az,aw,gv,g1,g6=>by
   have T1:=az _ _ g1
   have T6:=az _ _ g6
   have sr:=bF.2.small
   have q1:(decide (((i0:Nat):Int)<((j.ae.length:Nat):Int)))=false:=d!
   exact bI.out (m,b,r) AV.undef rfl (pk (d+199) _ _ hh _ hh (VV (aQ 3 false false .i64 ((i0:Nat):Int) ((j.ae.length:Nat):Int))<|BB q1<|ZZ) k!) az (Nat.le_refl _) ⟨⟨aw,g1,g6⟩,Kept.refl _ _⟩ k!
 | k+1,i0,m,b,r,x,hh,fK,az,aw,gv,g1,g6=>by
   have T1:=az _ _ g1
   have T6:=az _ _ g6
   have sr:=bF.2.small
   rw[kz]
   rcases Int.lt_or_le m (eg j ((i0:Nat):Int)) with c | c
   · rw[decide_eq_true c,aj]
     have q1:(decide (((i0:Nat):Int)<((j.ae.length:Nat):Int)))=true:=d!
     have k2:=CL (d:=d+194) j ((i0:Nat):Int) (aB.mono aw bF) az
     have q3:(decide (m<(eg j ((i0:Nat):Int))))=true:=d!
     obtain ⟨h4,aeL,nh,aed,ZE,S_⟩:=nJ (t:=28) (n:=3) (i:=b6) (L:=[(Zi (eg j ((i0:Nat):Int))),AV.aD,(Zn i0)]) az g6 k! rfl rfl (by simp only[AV.cells,List.all_cons,List.all_nil,Bool.and_true,Bool.and_self,fp,dV,fq,ft,db,iF,iG,iH,iI,iJ,fu])
     have lI:Has h h4:=Has.cI aw S_ bM o!
     have u5:=ew 3 false true i0 1 o!
     have key:=fun x=>S9 (d:=d) (b1:=b1) (b2:=b2) (zc:=zc) bM bF n1 n6 d16 k (i0+1) (eg j ((i0:Nat):Int)) false ((i0:Nat):Int) x h4 o! nh lI o! (S_ _ _ o! g1) ZE
     exact bI.round rfl (pk (d+199) _ _ hh _ h4 (VV (aQ 3 false false .i64 ((i0:Nat):Int) ((j.ae.length:Nat):Int))<|BB q1<|CN 2<|MM (ao 25 0 (AV.agg [j.ah,j.ag]) g1 k!)<|CC<|EE k2<|CN 3<|MM (ao 3 0 (Zi m) g6 k!)<|VV (bK 3 false false .i64 (eg j ((i0:Nat):Int)) m)<|BB q3<|CN 3<|SS aeL<|VV u5<|CC<|ZZ) k!) o! _ k! (fun x=>Wq S_ (key x))
   · rw[decide_eq_false (by omega:¬m<eg j ((i0:Nat):Int)),af]
     have q1:(decide (((i0:Nat):Int)<((j.ae.length:Nat):Int)))=true:=d!
     have k2:=CL (d:=d+194) j ((i0:Nat):Int) (aB.mono aw bF) az
     have q3:(decide (m<(eg j ((i0:Nat):Int))))=false:=d!
     have u4:=ew 3 false true i0 1 o!
     have key:=fun x=>S9 (d:=d) (b1:=b1) (b2:=b2) (zc:=zc) bM bF n1 n6 d16 k (i0+1) m b r x hh o! az aw o! g1 g6
     exact bI.round rfl (pk (d+199) _ _ hh _ hh (VV (aQ 3 false false .i64 ((i0:Nat):Int) ((j.ae.length:Nat):Int))<|BB q1<|CN 2<|MM (ao 25 0 (AV.agg [j.ah,j.ag]) g1 k!)<|CC<|EE k2<|CN 3<|MM (ao 3 0 (Zi m) g6 k!)<|VV (bK 3 false false .i64 (eg j ((i0:Nat):Int)) m)<|BV q3 u4<|CC<|ZZ) k!) o! (fun x=>((x 0)::(Pt b1)::(Pt b2)::rx x 3 3 ((Pt b6)::rx x 7 28 ((Zn j.ae.length)::(Zn (i0+1))::rx x 37 14 [])))) k! key
theorem Pa (b:Bool) {z:AV} (h:AV.scalar z=true):AV.scalar (cz b z)=true:=by cases b;rfl;exact h
theorem dc.yU {e:TypeId} {g h:ak} {z:AV} {L:List AV} (o:dc e g h z L):AV.scalar z=true:=by
 rcases o with ⟨rfl,_⟩ | ⟨_,p,op,rfl,_,_⟩<;>rfl
theorem dc.cz {e:TypeId} {g h h':ak} {z:AV} {l:List Int} {b6:Nat} (o:dc e g h z (aE.zs .i64 l)) (k:Kept b6 h h') (hb:b6<g.nx):dc e g h' z (aE.zs .i64 l):=o.imp id fun ⟨hn,p,op,e1,h1,q⟩=>⟨hn,p,op,e1,h1,k _ _ o! q⟩
theorem XU {e:TypeId} {g h:ak} {z:AV} {l:List Int} (b:Bool) (o:dc e g h z (zs .i64 l)) (hl:l.length<2^60) (hs:bQ env e=some 1) (ha:eN env e=some false):bW h .i64 e (cz b z) (bif b then l else []):=by
 cases b
 · exact bW.nil hs ha
 · exact o.zs hl hs ha
theorem Nr {e:TypeId} {g h hh:ak} {z:AV} {l:List Int} (b:Bool) (o:dc e g h z (zs .i64 l)) (hn:hh.nx≤g.nx) (v:AV.within hh.nx 18 (cz b z)=true) (hs:bQ env e=some 1) (ha:eN env e=some false):bW hh .i64 e (cz b z) (bif b then l else []):=by
 cases b
 · exact bW.nil hs ha
 · rcases o with ⟨rfl,e0⟩ | ⟨ep,p,op,rfl,hp,hg⟩
   · have:l=[]:=List.length_eq_zero_iff.1 (by have:=congrArg List.length e0;rwa [kJ] at this)
     subst this
     exact bW.nil hs ha
   · have:=of_decide_eq_true (show decide (p<hh.nx)=true from v)
     omega
structure FlR where (m:Int) (c:List Int) (r:Int) (e:Int)
def au (j:cF):FlR:=bif decide (cy j=0) then (bif decide (((j.ab.length:Nat):Int)=0) then ⟨0,[],0,0⟩ else
 ⟨(kz j j.ae.length 0 (cd (dq j.ab (⟨[]⟩:Mi)).1 100001) true 0).1,(bif (kz j j.ae.length 0 (cd (dq j.ab (⟨[]⟩:Mi)).1 100001) true 0).2.1 then (oe j.ab (dq j.ab (⟨[]⟩:Mi)).2 (cd (dq j.ab (⟨[]⟩:Mi)).1 100001)).1 else []),(kz j j.ae.length 0 (cd (dq j.ab (⟨[]⟩:Mi)).1 100001) true 0).2.2,0⟩) else ⟨0,[],0,cy j⟩
theorem Pb {d:Nat} {h:ak} (j:cF) (bF:aB.ok h j) (bM:Tidy h):∃z hk,cA (d+200) (.fn 8) [.agg [j.ah,j.ag]] h= .ret (.tuple [.agg [.int .i64 (au j).m,z,.int .i64 (au j).r],.int .i64 (au j).e]) hk∧bC h hk∧bW hk .i64 3 z (au j).c:=by
 have st:=bF.1.small
 have sr:=bF.2.small
 by_cases c0:cy j=0
 · have F_:=og c0
   have nt_:=F_.nt
   by_cases c1:((j.ab.length:Nat):Int)=0
   · rw[au,decide_eq_true c0,aj,decide_eq_true c1,aj]
     obtain ⟨h1,bD,cb,ib,aI,cf⟩:=ik bM (aK.cells [j.ah,j.ag] 25 false)
     have bx:Has h h1:=cf
     obtain ⟨h2,fA,eW,xw,bS,cx⟩:=ik cb (aK.cells [(Zi 0),AV.aD,(Zi 0)] 28 false)
     have cD:Has h h2:=bx.trans cx
     have k3:=uw (d:=d+188) j (aB.mono cD bF) eW
     have q4:(!decide ((cy j)=0))=false:=by rw[decide_eq_true c0];rfl
     have Ai:bJ (some (.slice 48)) (some j.ah)=some (Zn j.ab.length):=bF.1.len
     have q6:(decide (((j.ab.length:Nat):Int)=0))=true:=d!
     obtain ⟨h7,mF,eP,xq,gT,hG⟩:=nJ (t:=28) (n:=3) (i:=h1.nx) (L:=[(Zi 0),AV.aD,(Zi 0)]) eW bS k! rfl rfl (by simp only[AV.cells,List.all_cons,List.all_nil,Bool.and_true,Bool.and_self,fp,dV,fq,ft,db,iF,iG,iH,iI,iJ,fu])
     have er:Has h h7:=Has.cI cD hG bM o!
     have ev:=pk (d+199) mc ((AV.agg [j.ah,j.ag])::gB 50) h .ret h7 (NN bD (fun i=>(Pt i))<|NN fA (fun i=>(Pt i))<|CC<|MM (ao 25 0 (AV.agg [j.ah,j.ag]) (cx _ _ aI) k!)<|EE k3<|CN 2<|VV (eC 31 false true .i64 (cy j) 0)<|BC q4<|MM (ao 22 0 j.ah (cx _ _ aI) k!)<|VV Ai<|VV (f_ 3 false true .i64 ((j.ab.length:Nat):Int) 0)<|BC q6<|SS mF<|CC<|ZZ) k!
     obtain ⟨hk,e,g,q⟩:=eZ (P:=fun hk=>bW hk .i64 3 .aD []) rfl (jT (a:=2) (r:=3) (t:=28) (i:=h1.nx) Tryz.func8 zn k! (.inr rfl) ev k! (m8 gT k!)) bM ⟨eP,er,by omega⟩ (bW.nil k! k!) (fun _=>bW.nil k! k!)
     exact ⟨_,hk,e,g,q⟩
   · rw[au,decide_eq_true c0,aj,decide_eq_false c1,af]
     have Pc:=EA F_ o!
     obtain ⟨h1,bD,cb,ib,aI,cf⟩:=ik bM (aK.cells [j.ah,j.ag] 25 false)
     have bx:Has h h1:=cf
     obtain ⟨h2,fA,eW,xw,bS,cx⟩:=ik cb (aK.cells [(Zi 0),AV.aD,(Zi 0)] 28 false)
     have cD:Has h h2:=bx.trans cx
     have k3:=uw (d:=d+188) j (aB.mono cD bF) eW
     have q4:(!decide ((cy j)=0))=false:=by rw[decide_eq_true c0];rfl
     have Ai:bJ (some (.slice 48)) (some j.ah)=some (Zn j.ab.length):=bF.1.len
     have q6:(decide (((j.ab.length:Nat):Int)=0))=false:=d!
     obtain ⟨h7,ss,eP,xq,gT,jt⟩:=ik eW (tK (⟨[]⟩:Mi))
     have er:Has h h7:=cD.trans jt
     have bd8:A4 env 81 [(0,j.ah),(1,(AV.map h2.nx))]=some (AV.agg [j.ah,(AV.map h2.nx)]):=by rcases bF.1.known with e_ | e_ | ⟨_,_,_,_,_,e_,_⟩<;>rw[e_]<;>kernel_rfl
     obtain ⟨h9,Li,rp,Sf,xO,qD⟩:=ik eP (aK.cells [AV.aD,AV.dQ] 81 false)
     have mw:Has h h9:=er.trans qD
     have aeM:AV.scalar j.ah=true:=bF.1.scalar
     have aeN:AV.scalar (AV.map h2.nx)=true:=rfl
     obtain ⟨tz,Jq,ku,Sg,z_,kP⟩:=nJ (t:=81) (n:=2) (i:=h7.nx) (L:=[j.ah,(AV.map h2.nx)]) rp xO k! rfl rfl (by simp only[AV.cells,List.all_cons,List.all_nil,Bool.and_true,Bool.and_self,fp,dV,fq,ft,db,iF,iG,iH,iI,iJ,fu,aeM,aeN])
     have jF:Has h tz:=Has.cI mw kP bM o!
     obtain ⟨acq,aap,adk,Wr,Ws,xY⟩:=lW ku (kP _ _ o! (qD _ _ gT))
     have S':Has h acq:=fv jF (by first | assumption | exact kg bM o!) xY
     obtain ⟨Pd,acr,Ns,afx,CM,Nt,adl⟩:=SW (d:=d+1) (h:=acq) (knownN:=0) j.ab (⟨[]⟩:Mi) (bF.1.has S') (kP _ _ o! (qD _ _ gT)) (mR _) Wr (by first | omega | assumption | exact F_.ac | exact F_.nt | exact F_.tk | exact dw.nil _ | exact Pc.1) (by first | omega | assumption | exact F_.ac | exact F_.nt | exact F_.tk | exact dw.nil _ | exact Pc.1) (by first | omega | assumption | exact F_.ac | exact F_.nt | exact F_.tk | exact dw.nil _ | exact Pc.1) aap ku Ws o!
     obtain ⟨aeO,aeP⟩:=zl j.ab (⟨[]⟩:Mi) (by first | omega | assumption | exact F_.ac | exact F_.nt | exact F_.tk | exact dw.nil _ | exact Pc.1) (by first | omega | assumption | exact F_.ac | exact F_.nt | exact F_.tk | exact dw.nil _ | exact Pc.1) (by first | omega | assumption | exact F_.ac | exact F_.nt | exact F_.tk | exact dw.nil _ | exact Pc.1)
     have Ta:Has h Pd:=(S'.trans CM)
     obtain ⟨yi,acs,Jr,acu,Aj,Ak⟩:=ik Ns (aK.cells [(Zi 0),AV.aD,(Zi 0)] 28 false)
     have Al:Has h yi:=Ta.trans Ak
     have Pe:Has Pd yi:=Ak
     obtain ⟨h16,acv,Nu,afy,XV,tP⟩:=nJ (t:=28) (n:=3) (i:=Pd.nx) (L:=[(Zi (cd (dq j.ab (⟨[]⟩:Mi)).1 100001)),AV.aD,(Zi 0)]) Jr Aj k! rfl rfl (by simp only[AV.cells,List.all_cons,List.all_nil,Bool.and_true,Bool.and_self,fp,dV,fq,ft,db,iF,iG,iH,iI,iJ,fu])
     have Tb:Has h h16:=Has.cI Al tP bM o!
     have aaN:Has Pd h16:=Has.cI Pe tP Ns o!
     obtain ⟨acw,aaq,adm,Wt,Wu,xZ⟩:=lW Nu (tP _ _ o! (Ak _ _ Nt))
     have Tc:Has h acw:=fv Tb (by first | assumption | exact kg bM o!) xZ
     obtain ⟨Ui,h18,acx,acy,afz,CO,adn,ado,LM,LN⟩:=O_ (d:=d) (h:=acw) (knownN:=0) j.ab (dq j.ab (⟨[]⟩:Mi)).2 (cd (dq j.ab (⟨[]⟩:Mi)).1 100001) (bF.1.has Tc) (tP _ _ o! (Ak _ _ Nt)) (mR _) Wt (by first | omega | assumption | exact F_.ac | exact F_.nt | exact F_.tk | exact dw.nil _ | exact Pc.1) (by first | omega | assumption | exact F_.ac | exact F_.nt | exact F_.tk | exact dw.nil _ | exact Pc.1) (by first | omega | assumption | exact F_.ac | exact F_.nt | exact F_.tk | exact dw.nil _ | exact Pc.1) (by first | omega | assumption | exact F_.ac | exact F_.nt | exact F_.tk | exact dw.nil _ | exact Pc.1) (by first | omega | assumption | exact F_.ac | exact F_.nt | exact F_.tk | exact dw.nil _ | exact Pc.1) (by first | omega | assumption | exact F_.ac | exact F_.nt | exact F_.tk | exact dw.nil _ | exact Pc.1) (by first | omega | assumption | exact F_.ac | exact F_.nt | exact F_.tk | exact dw.nil _ | exact Pc.1) aaq Nu Wu o!
     have acz:=LM.small
     have acA:Has h h18:=(Tc.trans CO)
     have af0:AV.scalar Ui=true:=LM.scalar
     obtain ⟨h20,acB,Td,afA,acC,CP⟩:=abG (t:=26) (i:=Pd.nx) (o:=1) (v:=Ui) (N:=[(Zi (cd (dq j.ab (⟨[]⟩:Mi)).1 100001)),Ui,(Zi 0)]) acy (CO _ _ ((xZ _ o!).trans XV)) k! LM.scalar k! k!
     have Te:Has h h20:=Has.cI acA CP bM o!
     have aeQ:bJ (some (.slice 45)) (some j.ag)=some (Zn j.ae.length):=bF.2.len
     obtain ⟨_,aeR,h23,aar,acD,afB,⟨aas,adp,Wv⟩,Tf⟩:=bI.n rfl (S9 (d:=d) (h:=h) (zc:=Ui) (b1:=h.nx) (b2:=h1.nx) (b6:=Pd.nx) bM bF o! o! o! j.ae.length 0 (cd (dq j.ab (⟨[]⟩:Mi)).1 100001) true 0 (fun k_=>(((AV.agg [j.ah,j.ag])::(Pt h.nx)::(Pt h1.nx)::(Zi 0)::(Zi (cy j))::(Pt h7.nx)::(Pt Pd.nx)::AV.undef::AV.undef::(AV.agg [j.ah,j.ag])::(Zi (cy j))::(Zi (cy j))::(AV.bool (!decide ((cy j)=0)))::AV.undef::AV.undef::(Pt h.nx)::j.ah::(Zn j.ab.length)::(AV.bool (decide (((j.ab.length:Nat):Int)=0)))::AV.undef::(Pt h.nx)::j.ah::(AV.map h2.nx)::(AV.agg [j.ah,(AV.map h2.nx)])::(AV.agg [j.ah,(AV.map h2.nx)])::(Zi (dq j.ab (⟨[]⟩:Mi)).1)::(Zi (cd (dq j.ab (⟨[]⟩:Mi)).1 100001))::(AV.agg [(Zi (cd (dq j.ab (⟨[]⟩:Mi)).1 100001)),AV.aD,(Zi 0)])::(AV.agg [j.ah,(AV.map h2.nx)])::(Pt Pd.nx)::(Zi (cd (dq j.ab (⟨[]⟩:Mi)).1 100001))::Ui::(AV.ptr Pd.nx 1)::(AV.ptr h.nx 1)::j.ag::(Zn j.ae.length)::(Zi 0)::gB 14):List AV).getD k_ AV.undef) h20 (Nat.zero_add _) Td Te o! (CP _ _ o! (CO _ _ ((xZ _ o!).trans (tP _ _ o! (Ak _ _ (CM _ _ ((xY _ o!).trans (kP _ _ o! (qD _ _ (jt _ _ (cx _ _ aI))))))))))) acC)
     have acE:Has h h23:=aas
     have af1:AV.scalar (cz (kz j j.ae.length 0 (cd (dq j.ab (⟨[]⟩:Mi)).1 100001) true 0).2.1 Ui)=true:=Pa _ (dc.yU LN)
     have aeS:AV.scalar (cz (kz j j.ae.length 0 (cd (dq j.ab (⟨[]⟩:Mi)).1 100001) true 0).2.1 Ui)=true:=by assumption
     obtain ⟨h25,acF,acG,afC,acH,Tg⟩:=nJ (t:=28) (n:=3) (i:=h1.nx) (L:=[(Zi (kz j j.ae.length 0 (cd (dq j.ab (⟨[]⟩:Mi)).1 100001) true 0).1),(cz (kz j j.ae.length 0 (cd (dq j.ab (⟨[]⟩:Mi)).1 100001) true 0).2.1 Ui),(Zi (kz j j.ae.length 0 (cd (dq j.ab (⟨[]⟩:Mi)).1 100001) true 0).2.2)]) acD (Tf _ _ o! (CP _ _ o! (CO _ _ ((xZ _ o!).trans (tP _ _ o! (Ak _ _ (CM _ _ ((xY _ o!).trans (kP _ _ o! (qD _ _ (jt _ _ bS))))))))))) k! rfl rfl (by simp only[AV.cells,List.all_cons,List.all_nil,Bool.and_true,Bool.and_self,fp,dV,fq,ft,db,iF,iG,iH,iI,iJ,fu,aeS])
     have acI:Has h h25:=Has.cI acE Tg bM o!
     have ev:=pk (d+199) mc ((AV.agg [j.ah,j.ag])::gB 50) h .ret h25 (NN bD (fun i=>(Pt i))<|NN fA (fun i=>(Pt i))<|CC<|MM (ao 25 0 (AV.agg [j.ah,j.ag]) (cx _ _ aI) k!)<|EE k3<|CN 2<|VV (eC 31 false true .i64 (cy j) 0)<|BC q4<|MM (ao 22 0 j.ah (cx _ _ aI) k!)<|VV Ai<|VV (f_ 3 false true .i64 ((j.ab.length:Nat):Int) 0)<|BC q6<|MM (ao 22 0 j.ah (cx _ _ aI) k!)<|NN ss (fun i=>(AV.map i))<|QQ bd8<|NN Li (fun i=>(Pt i))<|SS Jq<|MM (ao 81 0 (AV.agg [j.ah,(AV.map h2.nx)]) z_ k!)<|EE acr<|CN 2<|NN acs (fun i=>(Pt i))<|SS acv<|MM (ao 81 0 (AV.agg [j.ah,(AV.map h2.nx)]) (tP _ _ o! (Ak _ _ (CM _ _ ((xY _ o!).trans z_)))) k!)<|CC<|MM (ao 3 0 (Zi (cd (dq j.ab (⟨[]⟩:Mi)).1 100001)) XV k!)<|EE acx<|CC<|SS acB<|CC<|MM (ao 23 1 j.ag (CP _ _ o! (CO _ _ ((xZ _ o!).trans (tP _ _ o! (Ak _ _ (CM _ _ ((xY _ o!).trans (kP _ _ o! (qD _ _ (jt _ _ (cx _ _ aI))))))))))) k!)<|VV aeQ<|CC<|LL aar<|MM (ao 28 0 (AV.agg [(Zi (kz j j.ae.length 0 (cd (dq j.ab (⟨[]⟩:Mi)).1 100001) true 0).1),(cz (kz j j.ae.length 0 (cd (dq j.ab (⟨[]⟩:Mi)).1 100001) true 0).2.1 Ui),(Zi (kz j j.ae.length 0 (cd (dq j.ab (⟨[]⟩:Mi)).1 100001) true 0).2.2)]) Wv k!)<|SS acF<|CC<|ZZ) k!
     obtain ⟨hk,e,g,q⟩:=eZ (P:=fun hk=>bW hk .i64 3 (cz (kz j j.ae.length 0 (cd (dq j.ab (⟨[]⟩:Mi)).1 100001) true 0).2.1 Ui) (bif (kz j j.ae.length 0 (cd (dq j.ab (⟨[]⟩:Mi)).1 100001) true 0).2.1 then (oe j.ab (dq j.ab (⟨[]⟩:Mi)).2 (cd (dq j.ab (⟨[]⟩:Mi)).1 100001)).1 else [])) rfl (jT (a:=2) (r:=3) (t:=28) (i:=h1.nx) Tryz.func8 zn k! (.inr rfl) ev k! (m8 acH k!)) bM ⟨acG,acI,by omega⟩
      (XU _ ((LN.cz CP o!).cz Tf o! |>.cz Tg o!) o! k! k!)
      (fun w=>Nr _ LN o! (xV w) k! k!)
     exact ⟨_,hk,e,g,q⟩
 · rw[au,decide_eq_false c0,af]
   obtain ⟨h1,bD,cb,ib,aI,cf⟩:=ik bM (aK.cells [j.ah,j.ag] 25 false)
   have bx:Has h h1:=cf
   obtain ⟨h2,fA,eW,xw,bS,cx⟩:=ik cb (aK.cells [(Zi 0),AV.aD,(Zi 0)] 28 false)
   have cD:Has h h2:=bx.trans cx
   have k3:=uw (d:=d+188) j (aB.mono cD bF) eW
   have q4:(!decide ((cy j)=0))=true:=by rw[decide_eq_false c0];rfl
   obtain ⟨h5,aat,js,ab9,aau,Th⟩:=nJ (t:=28) (n:=3) (i:=h1.nx) (L:=[(Zi 0),AV.aD,(Zi 0)]) eW bS k! rfl rfl (by simp only[AV.cells,List.all_cons,List.all_nil,Bool.and_true,Bool.and_self,fp,dV,fq,ft,db,iF,iG,iH,iI,iJ,fu])
   have eV:Has h h5:=Has.cI cD Th bM o!
   have ev:=pk (d+199) mc ((AV.agg [j.ah,j.ag])::gB 50) h .ret h5 (NN bD (fun i=>(Pt i))<|NN fA (fun i=>(Pt i))<|CC<|MM (ao 25 0 (AV.agg [j.ah,j.ag]) (cx _ _ aI) k!)<|EE k3<|CN 2<|VV (eC 31 false true .i64 (cy j) 0)<|BB q4<|CN 2<|SS aat<|CC<|ZZ) k!
   obtain ⟨hk,e,g,q⟩:=eZ (P:=fun hk=>bW hk .i64 3 .aD []) rfl (jT (a:=2) (r:=3) (t:=28) (i:=h1.nx) Tryz.func8 zn k! (.inr rfl) ev k! (m8 aau k!)) bM ⟨js,eV,by omega⟩ (bW.nil k! k!) (fun _=>bW.nil k! k!)
   exact ⟨_,hk,e,g,q⟩
def wh (c:UInt8):Bool:=decide (97≤((c.toNat:Nat):Int))&&decide (((c.toNat:Nat):Int)≤122)
def digit (c:UInt8):Bool:=decide (48≤((c.toNat:Nat):Int))&&decide (((c.toNat:Nat):Int)≤57)
def dash (c:UInt8):Bool:=decide (((c.toNat:Nat):Int)=45)
def x7 (f:Nat→Bool):Nat→Nat→Bool
 | 0,_=>true
 | k+1,i=>f i&&x7 f k (i+1)
theorem all_congr {f g:Nat→Bool}:∀(k i:Nat),(∀j,i≤j→j<i+k→f j=g j)→x7 f k i=x7 g k i
 | 0,_,_=>rfl
 | k+1,i,h=>by
   rw[x7,x7,h i (Nat.le_refl _) o!,all_congr k (i+1) fun j h1 h2=>h j o! o!]
theorem Ti (a b:Int):decide (a<b)= !decide (b≤a):=by
 by_cases h:a<b
 · rw[decide_eq_true h,decide_eq_false o!];rfl
 · rw[decide_eq_false h,decide_eq_true o!];rfl
theorem EC (s:List UInt8):∀(k i:Nat),iL s k i=bif x7 (fun j=>wh (s.g j)||(!decide ((j:Int)=0)&&(digit (s.g j)||dash (s.g j)))) k i then none else some false
 | 0,_=>rfl
 | k+1,i=>by
   rw[iL,x7,EC s k (i+1),wh,digit,dash]
   generalize x7 _ k (i+1)=z
   generalize decide (97≤(((s.g i).toNat:Nat):Int))=a
   generalize decide ((((s.g i).toNat:Nat):Int)≤122)=b
   generalize decide (48≤(((s.g i).toNat:Nat):Int))=c
   generalize decide ((((s.g i).toNat:Nat):Int)≤57)=d
   generalize decide ((((s.g i).toNat:Nat):Int)=45)=e
   generalize decide ((i:Int)=0)=f
   cases a<;>cases b<;>cases c<;>cases d<;>cases e<;>cases f<;>rfl
theorem ED (s:List UInt8):∀(k i:Nat),cV s k i=bif x7 (fun j=>wh (s.g j)||(digit (s.g j)||dash (s.g j))) k i then none else some false
 | 0,_=>rfl
 | k+1,i=>by
   rw[cV,x7,ED s k (i+1),wh,digit,dash]
   simp only[Ti]
   generalize x7 _ k (i+1)=z
   generalize decide (97≤(((s.g i).toNat:Nat):Int))=a
   generalize decide ((((s.g i).toNat:Nat):Int)≤122)=b
   generalize decide (48≤(((s.g i).toNat:Nat):Int))=c
   generalize decide ((((s.g i).toNat:Nat):Int)≤57)=d
   generalize decide ((((s.g i).toNat:Nat):Int)=45)=e
   cases a<;>cases b<;>cases c<;>cases d<;>cases e<;>rfl
theorem Nv (s:List UInt8):fV s=dU s:=by
 unfold fV dU
 cases s with
 | nil=>rfl
 | cons x s=>
   rw[decide_eq_false (show ¬x::s=[] by simp),decide_eq_false (show ¬(((x::s).length:Nat):Int)=0 by simp;omega)]
   cases decide (16<(((x::s).length:Nat):Int)) with
   | true=>rfl
   | false=>
     rw[EC,ED,List.length_cons,x7,x7,Ti,Ti]
     rw[all_congr (f:=fun j=>wh ((x::s).g j)||(!decide ((j:Int)=0)&&(digit ((x::s).g j)||dash ((x::s).g j)))) (g:=fun j=>wh ((x::s).g j)||(digit ((x::s).g j)||dash ((x::s).g j))) s.length (0+1) fun j hj _=>by
      simp only[decide_eq_false (show ¬(j:Int)=0 by omega),Bool.not_false,Bool.true_and]]
     simp only[wh]
     rw[show decide (((0:Nat):Int)=0)=true from rfl]
     generalize x7 _ s.length (0+1)=z
     generalize decide (97≤((((x::s).g 0).toNat:Nat):Int))=a
     generalize decide (((((x::s).g 0).toNat:Nat):Int)≤122)=b
     generalize digit ((x::s).g 0)=c
     generalize dash ((x::s).g 0)=e
     cases a<;>cases b<;>cases c<;>cases e<;>cases z<;>rfl
theorem CT (x:Int):fW x=dD x:=rfl
theorem Tj {j:cF} {a:Nat}:∀k i,j1 a j k i=bif anyI (fun n=>decide ((j.ae.g n).name=(j.ae.g a).name)) k i then some 6 else none
 | 0,i=>rfl
 | k+1,i=>by
   rw[j1,anyI,Tj k (i+1)]
   cases decide ((j.ae.g i).name=(j.ae.g a).name)<;>rfl
theorem Tk {j:cF} {a:Nat}:∀k i,gJ a j k i=bif anyI (fun n=>decide ((j.ab.g n).name=(j.ab.g a).name)) k i then some 6 else none
 | 0,i=>rfl
 | k+1,i=>by
   rw[gJ,anyI,Tk k (i+1)]
   cases decide ((j.ab.g i).name=(j.ab.g a).name)<;>rfl
theorem Nw {x:Task} {a:Nat}:∀k i,dG a x k i=bif anyI (fun n=>decide (x.aq.g n=x.aq.g a)) k i then some 6 else none
 | 0,i=>rfl
 | k+1,i=>by
   rw[dG,anyI,Nw k (i+1)]
   cases decide (x.aq.g i=x.aq.g a)<;>rfl
theorem Nx {x:Task} {a:Nat}:∀k i,dH a x k i=bif anyI (fun n=>decide ((x.aF.g n).ai=(x.aF.g a).ai)) k i then some 6 else none
 | 0,i=>rfl
 | k+1,i=>by
   rw[dH,anyI,Nx k (i+1)]
   cases decide ((x.aF.g i).ai=(x.aF.g a).ai)<;>rfl
theorem Tm {x:aZ}:∀(k i:Nat),i+k=x.off.length→bX x k i=wo (fun q=>cm (x.off.take q) (x.off.g q)) k i
 | 0,i,h=>rfl
 | k+1,i,h=>by
   have hi:i<x.off.length:=by omega
   rw[bX,wo,Tm k (i+1) o!]
   have e:cm (x.off.take i) (x.off.g i)=bif !(dD (x.off.g i).bt) then 1 else bif !(dD (x.off.g i).aP) then 1 else bif decide ((x.off.g i).aP<(x.off.g i).bt) then 1 else bif decide (0<((i:Nat):Int)) then (bif decide ((x.off.g i).bt≤(x.off.g (i - 1)).aP) then 1 else 0) else 0:=by
    rw[cm,CT,CT,o6 (Nat.le_of_lt hi)]
    by_cases z:0<i
    · rw[v_ (show i - 1<i by omega)]
    · rw[decide_eq_false (show ¬0<((i:Nat):Int) by omega)];rfl
   rw[e]
   cases dD (x.off.g i).bt<;>cases dD (x.off.g i).aP<;>cases decide ((x.off.g i).aP<(x.off.g i).bt)<;>cases decide (0<((i:Nat):Int))<;>cases decide ((x.off.g i).bt≤(x.off.g (i - 1)).aP)<;>rfl
theorem aav {j:cF} {i:Nat} (hi:i<j.ae.length):bj (List.take i j.ae) (List.g j.ae i)=bif !(dU (j.ae.g i).name) then 5 else bif anyI (fun n=>decide ((j.ae.g n).name=(j.ae.g i).name)) i 0 then 6 else bG (j.ae.g i):=by
 rw[bj,Nv,Z8,Nb,o6 (Nat.le_of_lt hi)]
 rw[oZ (Q:=fun n=>decide ((j.ae.g n).name=(j.ae.g i).name)) fun n _ hn=>by rw[v_ o!];rfl]
 have e:(bif !(hL (j.ae.g i).aC 1000) then 1 else G' (j.ae.g i).off.length 16 (fun jx=>cm (List.take jx (j.ae.g i).off) (List.g (j.ae.g i).off jx)))=bG (j.ae.g i):=by
  rw[bG,hL,G',Tm _ _ o!]
  by_cases a:0≤(j.ae.g i).aC
  · rw[decide_eq_true a,decide_eq_false (show ¬(j.ae.g i).aC<0 by omega)]
    by_cases b:(j.ae.g i).aC≤1000
    · rw[decide_eq_true b,decide_eq_false (show ¬1000<(j.ae.g i).aC by omega)];rfl
    · rw[decide_eq_false b,decide_eq_true (show 1000<(j.ae.g i).aC by omega)];rfl
  · rw[decide_eq_false a,decide_eq_true (show (j.ae.g i).aC<0 by omega)];rfl
 rw[←e]
theorem Tn {j:cF}:∀(k i:Nat),i+k=j.ae.length→ic j k i=wo (fun q=>bj (List.take q j.ae) (List.g j.ae q)) k i
 | 0,i,h=>rfl
 | k+1,i,h=>by
   rw[ic,wo,Tn k (i+1) o!,Tj,aav o!]
   cases dU (j.ae.g i).name with
   | false=>rfl
   | true=>cases anyI (fun n=>decide ((j.ae.g n).name=(j.ae.g i).name)) i 0<;>rfl
theorem Ny (x:Int) (n:Nat):(!(fQ x (n:Int)))=(bif decide (x<0) then true else decide ((n:Int)≤x)):=by
 rw[fQ]
 by_cases a:0≤x
 · rw[decide_eq_true a,decide_eq_false (show ¬x<0 by omega),aj,af]
   by_cases b:x<(n:Int)
   · rw[decide_eq_true b,decide_eq_false (show ¬(n:Int)≤x by omega)];rfl
   · rw[decide_eq_false b,decide_eq_true (show (n:Int)≤x by omega)];rfl
 · rw[decide_eq_false a,decide_eq_true (show x<0 by omega)];rfl
theorem Nz {j:cF} {t:Task}:∀(k i:Nat),i+k=t.aq.length→cJ t j k i=wo (fun q=>cK (List.take q t.aq) (List.g t.aq q) j) k i
 | 0,i,h=>rfl
 | k+1,i,h=>by
   have e:cK (List.take i t.aq) (List.g t.aq i) j=bif decide (t.aq.g i<0) then 7 else bif decide (((j.ab.length:Nat):Int)≤t.aq.g i) then 7 else bif anyI (fun n=>decide (t.aq.g n=t.aq.g i)) i 0 then 6 else 0:=by
    rw[cK,fD,Ny,CG,o6 (show i≤t.aq.length by omega)]
    rw[oZ (Q:=fun n=>decide (t.aq.g n=t.aq.g i)) fun n _ hn=>by rw[v_ o!];exact decide_eq_decide.2 eq_comm]
    cases decide (t.aq.g i<0)<;>cases decide (((j.ab.length:Nat):Int)≤t.aq.g i)<;>rfl
   rw[cJ,wo,Nz k (i+1) o!,Nw,e]
   cases decide (t.aq.g i<0)<;>cases decide (((j.ab.length:Nat):Int)≤t.aq.g i)<;>cases anyI (fun n=>decide (t.aq.g n=t.aq.g i)) i 0<;>rfl
theorem To {j:cF} {t:Task}:∀(k i:Nat),i+k=t.aF.length→b5 t j k i=wo (fun q=>fh (List.take q t.aF) (List.g t.aF q) j) k i
 | 0,i,h=>rfl
 | k+1,i,h=>by
   have e:fh (List.take i t.aF) (List.g t.aF i) j=bif decide ((t.aF.g i).ai<0) then 7 else bif decide (((j.ae.length:Nat):Int)≤(t.aF.g i).ai) then 7 else bif anyI (fun n=>decide ((t.aF.g n).ai=(t.aF.g i).ai)) i 0 then 6 else bif decide ((t.aF.g i).aC<1) then 1 else bif decide (1000<(t.aF.g i).aC) then 1 else bif decide ((j.ae.g (Int.toNat (t.aF.g i).ai)).aC<(t.aF.g i).aC) then 9 else 0:=by
    rw[fh,dm,Ny,SG,o6 (show i≤t.aF.length by omega)]
    rw[oZ (Q:=fun n=>decide ((t.aF.g n).ai=(t.aF.g i).ai)) fun n _ hn=>by rw[v_ o!];rfl]
    cases decide ((t.aF.g i).ai<0)<;>cases decide (((j.ae.length:Nat):Int)≤(t.aF.g i).ai)<;>rfl
   rw[b5,wo,To k (i+1) o!,Nx,e]
   cases decide ((t.aF.g i).ai<0)<;>cases decide (((j.ae.length:Nat):Int)≤(t.aF.g i).ai)<;>cases anyI (fun n=>decide ((t.aF.g n).ai=(t.aF.g i).ai)) i 0<;>cases decide ((t.aF.g i).aC<1)<;>cases decide (1000<(t.aF.g i).aC)<;>cases decide ((j.ae.g (Int.toNat (t.aF.g i).ai)).aC<(t.aF.g i).aC)<;>rfl
theorem Ww {j:cF} {i:Nat} (hi:i<j.ab.length):ef (List.take i j.ab) (List.g j.ab i) j=bif !(dU (j.ab.g i).name) then 5 else bif anyI (fun n=>decide ((j.ab.g n).name=(j.ab.g i).name)) i 0 then 6 else cn j (j.ab.g i):=by
 rw[ef,cR,Nv,Wa,o6 (Nat.le_of_lt hi),CT]
 rw[oZ (Q:=fun n=>decide ((j.ab.g n).name=(j.ab.g i).name)) fun n _ hn=>by rw[v_ o!];rfl]
 rw[cn,Nz _ _ o!,To _ _ o!,Sr,Ss,G',G']
 rw[decide_eq_false (show ¬(((j.ab.g i).aq.length:Nat):Int)<(((j.ab.g i).aq.length:Nat):Int) by omega),decide_eq_false (show ¬(((j.ab.g i).aF.length:Nat):Int)<(((j.ab.g i).aF.length:Nat):Int) by omega),af,af]
 have e1:List.g j.ab i=j.ab.g i:=rfl
 cases dU (j.ab.g i).name with
 | false=>rfl
 | true=>
 cases anyI (fun n=>decide ((j.ab.g n).name=(j.ab.g i).name)) i 0 with
 | true=>rfl
 | false=>
 cases dD (j.ab.g i).aL with
 | false=>rfl
 | true=>
 cases h:wo (fun q=>cK (List.take q (j.ab.g i).aq) (List.g (j.ab.g i).aq q) j) (j.ab.g i).aq.length 0 with
 | none=>rfl
 | some r=>
   have:=tJ h
   show (bif !decide (r=0) then r else _)=r
   rw[decide_eq_false this];rfl
theorem Tp {j:cF}:∀(k i:Nat),i+k=j.ab.length→eG j k i=wo (fun q=>ef (List.take q j.ab) (List.g j.ab q) j) k i
 | 0,i,h=>rfl
 | k+1,i,h=>by
   rw[eG,wo,Tp k (i+1) o!,Tk,Ww o!]
   cases dU (j.ab.g i).name with
   | false=>rfl
   | true=>cases anyI (fun n=>decide ((j.ab.g n).name=(j.ab.g i).name)) i 0<;>rfl
theorem Tq (j:cF) (h:(∀i,i<j.ab.length→∀q,q<(j.ab.g i).aq.length→0≤(j.ab.g i).aq.g q∧(j.ab.g i).aq.g q<(j.ab.length:Int))→j.ab.length≤64→(dP j.ab).length=(eF j).length∧(eF j).length≤j.ab.length):cy j=b9 j:=by
 have Y':bA j.ab 64 (fun jx=>ef (List.take jx j.ab) (List.g j.ab jx) j)=0→(dP j.ab).length=(eF j).length∧(eF j).length≤j.ab.length:=fun e=>h (rJ e) (by rw[xP] at e;have:=(nu e).1;omega)
 rw[cy,b9,Tn _ _ o!,Tp _ _ o!,Su]
 rw[xP] at Y' ⊢
 rw[G']
 rw[G'] at Y' ⊢
 generalize hA:wo (fun q=>bj (List.take q j.ae) (List.g j.ae q)) j.ae.length 0=A
 generalize hB:wo (fun q=>ef (List.take q j.ab) (List.g j.ab q) j) j.ab.length 0=B at Y' ⊢
 cases decide (16<((j.ae.length:Nat):Int)) with
 | true=>rfl
 | false=>
 rw[af,af]
 cases A with
 | some r=>
   have:=tJ hA
   show (bif !decide (r=0) then r else _)=r
   rw[decide_eq_false this];rfl
 | none=>
 show (bif !decide ((0:Int)=0) then 0 else _)=_
 rw[decide_eq_true (show (0:Int)=0 from rfl),Bool.not_true,af]
 cases hc:decide (64<((j.ab.length:Nat):Int)) with
 | true=>rfl
 | false=>
 rw[hc,af] at Y'
 rw[af,af]
 cases B with
 | some r=>
   have:=tJ hB
   show (bif !decide (r=0) then r else _)=r
   rw[decide_eq_false this];rfl
 | none=>
 obtain ⟨e1,e2⟩:=Y' rfl
 show (bif !decide ((0:Int)=0) then 0 else _)=_
 rw[decide_eq_true (show (0:Int)=0 from rfl),Bool.not_true,af]
 by_cases z:(eF j).length=j.ab.length
 · rw[decide_eq_false (by omega:¬((((dP j.ab).length:Nat):Int)<((j.ab.length:Nat):Int))),decide_eq_true (by omega:(((eF j).length:Nat):Int)=((j.ab.length:Nat):Int))];rfl
 · rw[decide_eq_true (by omega:((((dP j.ab).length:Nat):Int)<((j.ab.length:Nat):Int))),decide_eq_false (by omega:¬(((eF j).length:Nat):Int)=((j.ab.length:Nat):Int))];rfl
def qc:Code:=(Tryz.f30.body).getD .skip
theorem CU:Tryz.f30.body=some qc:=by kernel_rfl
def GN:Code:=(bz qc).getD 0 .skip
def GO:Code:=(bz qc).getD 1 .skip
def cq (j:cF) (i0:Nat) (behind:Int):Nat→Nat→Bool→Bool
 | 0,_,fX=>fX
 | n8+1,i1,fX=>(bif fX then cq j i0 behind n8 (i1+1) true else cq j i0 behind n8 (i1+1) (decide (((j.ab.g i0).aq.g i1)=behind)))
theorem qd {d:Nat} {h:ak} (behind:Int) (left:Int) (i0:Nat) (j:cF) (R:Int→Int→Prop) (V:Int→Int→List Int) (dL:Nat) (ct:aH h j.ah j.ab) (fO:aH h j.ag j.ae) (qv:aB.ok h j) (nR:i0<j.ab.length) (sv:∀b l:Int,0≤b→b<(j.ab.length:Int)→R b l→∀hh,Tidy hh→Has h hh→∃z hk,cA (d+65) (.fn 30) [AV.agg [j.ah,j.ag],.int .i64 b,.int .i64 l] hh= .ret z hk∧bC hh hk∧bW hk .i64 3 z (V b l)∧V b l≠ []∧(V b l).length≤1000) (tx:∀i:Nat,i<j.ab.length→(behind<0∨∃q:Nat,q<(j.ab.g i).aq.length∧(j.ab.g i).aq.g q=behind)→left≤qF j (i:Int)→(j.ab.g i).aL<left→R (i:Int) (IntKind.i64.wrap (left -(j.ab.g i).aL))) (xz:Ac j.ab (xU j.ab)) (O0:j.ab.length≤64):∀(k_ i_:Nat) (fX:Bool) (_:i_+k_=((j.ab.g i0).aq.length)) (x:Nat→AV) (hh:ak) (az:Tidy hh) (aw:Has h hh) (ca:hh.get dL=some (aK.cells [j.ah,j.ag] 25 false)),bu (cA (d+65)) GO ⟨((x 0)::(Zi behind)::(Zi left)::(Pt dL)::rx x 4 3 ((Zn i0)::(AV.bool fX)::(Zn i_)::rx x 10 68 [])),hh,[],.no⟩ (.exit 2) hh (fun r y=>((y 0)::(Zi behind)::(Zi left)::(Pt dL)::rx y 4 3 ((Zn i0)::(AV.bool r)::rx y 9 69 []))) (fun r=>True) (cq j i0 behind k_ i_ fX)
 | 0,i1,fX,fK,x,hh,az,aw,ca=>by
   have kK:=ct.small
   have jr:=fO.small
   have so:=az _ _ ca
   obtain ⟨p2,q3,qC⟩:=(ct.has aw).elem (i:=i0) o!
   have JS:b_ env (some (.slice 48)) (some j.ah) (some (Zn i0))=some (AV.ptr p2 q3):=qC
   have JT:bm env hh 26 (AV.ptr p2 (q3+2))=some ((j.ab.g i0).aG):=(ct.has aw).part (t:=26) (j:=2) o! qC k! rfl
   have Ai:bJ (some (.slice 3)) (some (j.ab.g i0).aG)=some (Zn (j.ab.g i0).aq.length):=(((ct.has aw).ok (i:=i0) o!).2.1).len
   have q6:(decide (((i1:Nat):Int)<(((j.ab.g i0).aq.length:Nat):Int)))=false:=d!
   exact bu.out fX rfl (pk (d+65) _ _ hh _ hh (CN 2<|MM (ao 22 0 j.ah ca k!)<|CC<|VV JS<|CC<|MM JT<|VV Ai<|VV (aQ 3 false false .i64 ((i1:Nat):Int) (((j.ab.g i0).aq.length:Nat):Int))<|BB q6<|ZZ) k!) (bC.refl az) trivial k!
 | n8+1,i1,fX,fK,x,hh,az,aw,ca=>by
   have kK:=ct.small
   have jr:=fO.small
   have so:=az _ _ ca
   have nl_:=((ct.ok (i:=i0) o!).2.1).small
   obtain ⟨p2,q3,qC⟩:=(ct.has aw).elem (i:=i0) o!
   have JS:b_ env (some (.slice 48)) (some j.ah) (some (Zn i0))=some (AV.ptr p2 q3):=qC
   have JT:bm env hh 26 (AV.ptr p2 (q3+2))=some ((j.ab.g i0).aG):=(ct.has aw).part (t:=26) (j:=2) o! qC k! rfl
   have Ai:bJ (some (.slice 3)) (some (j.ab.g i0).aG)=some (Zn (j.ab.g i0).aq.length):=(((ct.has aw).ok (i:=i0) o!).2.1).len
   have q6:(decide (((i1:Nat):Int)<(((j.ab.g i0).aq.length:Nat):Int)))=true:=d!
   rcases Bool.eq_false_or_eq_true fX with f1 | f1
   · have u8:=ew 3 false true i1 1 o!
     exact bu.round (by simp only[cq,f1,aj,af]) (pk (d+65) _ _ hh _ hh (CN 2<|MM (ao 22 0 j.ah ca k!)<|CC<|VV JS<|CC<|MM JT<|VV Ai<|VV (aQ 3 false false .i64 ((i1:Nat):Int) (((j.ab.g i0).aq.length:Nat):Int))<|BB q6<|CN 2<|BB f1<|BB f1<|BB f1<|BB f1<|BB f1<|BB f1<|BB f1<|BB f1<|BB f1<|BB f1<|BV f1 (qI true f1)<|CN 2<|VV u8<|CC<|ZZ) k!) (bC.refl az) _ k! (fun x=>qd behind left i0 j R V dL ct fO qv nR sv tx xz O0 n8 (i1+1) true o! x hh az aw ca)
   · obtain ⟨p9,JM,xn⟩:=(ct.has aw).elem (i:=i0) o!
     have OF:b_ env (some (.slice 48)) (some j.ah) (some (Zn i0))=some (AV.ptr p9 JM):=xn
     have uH:bm env hh 26 (AV.ptr p9 (JM+2))=some ((j.ab.g i0).aG):=(ct.has aw).part (t:=26) (j:=2) o! xn k! rfl
     obtain ⟨p13,q14,Js,_⟩:=(((ct.has aw).ok (i:=i0) o!).2.1).elem (i:=i1) o!
     have aaw:b_ env (some (.slice 3)) (some (j.ab.g i0).aG) (some (Zn i1))=some (AV.ptr p13 q14):=Js
     have Wx:bm env hh 3 (AV.ptr p13 q14)=some (Zi ((j.ab.g i0).aq.g i1)):=(((ct.has aw).ok (i:=i0) o!).2.1).load o! Js
     have u16:=ew 3 false true i1 1 o!
     exact bu.round (by simp only[cq,f1,aj,af]) (pk (d+65) _ _ hh _ hh (CN 2<|MM (ao 22 0 j.ah ca k!)<|CC<|VV JS<|CC<|MM JT<|VV Ai<|VV (aQ 3 false false .i64 ((i1:Nat):Int) (((j.ab.g i0).aq.length:Nat):Int))<|BB q6<|CN 2<|BC f1<|BM f1 (ao 22 0 j.ah ca k!)<|BC f1<|BV f1 OF<|BC f1<|BM f1 uH<|BC f1<|BV f1 aaw<|BM f1 Wx<|BC f1<|BV f1 (f_ 3 false false .i64 ((j.ab.g i0).aq.g i1) behind)<|VV (bf (a:=some (AV.bool true)) (b:=some (AV.bool (decide (((j.ab.g i0).aq.g i1)=behind)))) f1)<|CN 2<|VV u16<|CC<|ZZ) k!) (bC.refl az) _ k! (fun x=>qd behind left i0 j R V dL ct fO qv nR sv tx xz O0 n8 (i1+1) (decide (((j.ab.g i0).aq.g i1)=behind)) o! x hh az aw ca)
theorem NA {j:cF} {i0:Nat} {behind:Int}:∀(k i:Nat) (v:Bool),cq j i0 behind k i v=true→v=true∨∃q:Nat,i≤q∧q<i+k∧(j.ab.g i0).aq.g q=behind
 | 0,i,v,h=> .inl h
 | k+1,i,v,h=>by
   rw[cq] at h
   cases v with
   | true=>exact .inl rfl
   | false=>
     rw[af] at h
     rcases NA k (i+1) _ h with e | ⟨q,h1,h2,h3⟩
     · exact .inr ⟨i,Nat.le_refl _,by omega,of_decide_eq_true e⟩
     · exact .inr ⟨q,by omega,by omega,h3⟩
theorem acJ {j:cF} {i0:Nat} {behind:Int} (h:(!(cq j i0 behind (j.ab.g i0).aq.length 0 (decide (behind<0))))=false):behind<0∨∃q:Nat,q<(j.ab.g i0).aq.length∧(j.ab.g i0).aq.g q=behind:=by
 rcases NA _ 0 _ (by simpa using h) with e | ⟨q,_,h2,h3⟩
 · exact .inl (of_decide_eq_true e)
 · exact .inr ⟨q,by omega,h3⟩
def dy (V:Int→Int→List Int) (left:Int) (j:cF) (behind:Int):Nat→Nat→(Unit)⊕(List Int)
 | 0,_=>Sum.inl ()
 | c7+1,i0=>(bif (!(cq j i0 behind (j.ab.g i0).aq.length 0 (decide (behind<0)))) then dy V left j behind c7 (i0+1) else (bif (decide ((qF j ((i0:Nat):Int))<left)) then dy V left j behind c7 (i0+1) else (bif (decide ((j.ab.g i0).aL<left)) then Sum.inr (((i0:Nat):Int)::(V ((i0:Nat):Int) (IntKind.i64.wrap (left -((j.ab.g i0).aL))))) else Sum.inr ([((i0:Nat):Int)]))))
theorem mX {d:Nat} {h:ak} (behind:Int) (left:Int) (j:cF) (R:Int→Int→Prop) (V:Int→Int→List Int) (bh:Nat) (aO:aH h j.ah j.ab) (bL:aH h j.ag j.ae) (gS:aB.ok h j) (gM:∀b l:Int,0≤b→b<(j.ab.length:Int)→R b l→∀hh,Tidy hh→Has h hh→∃z hk,cA (d+65) (.fn 30) [AV.agg [j.ah,j.ag],.int .i64 b,.int .i64 l] hh= .ret z hk∧bC hh hk∧bW hk .i64 3 z (V b l)∧V b l≠ []∧(V b l).length≤1000) (iS:∀i:Nat,i<j.ab.length→(behind<0∨∃q:Nat,q<(j.ab.g i).aq.length∧(j.ab.g i).aq.g q=behind)→left≤qF j (i:Int)→(j.ab.g i).aL<left→R (i:Int) (IntKind.i64.wrap (left -(j.ab.g i).aL))) (rH:Ac j.ab (xU j.ab)) (uR:j.ab.length≤64) (bM:Tidy h) (pT:h.nx≤bh):∀(k_ i_:Nat) (_:i_+k_=j.ab.length) (x:Nat→AV) (hh:ak) (az:Tidy hh) (aw:Has h hh) (gv:h.nx≤hh.nx) (aM:hh.get bh=some (aK.cells [j.ah,j.ag] 25 false)),bI (σ:=Unit) (ρ:=List Int) (cA (d+65)) GN ⟨((x 0)::(Zi behind)::(Zi left)::(Pt bh)::rx x 4 3 ((Zn i_)::rx x 8 70 [])),hh,[],.no⟩ (.exit 0) hh (fun r z y=>((y 0)::(Zi behind)::(Zi left)::(Pt bh)::rx y 4 74 [])) (fun r z y=>((y 0)::(Zi behind)::(Zi left)::(Pt bh)::(y 4)::(y 5)::z::rx y 7 71 [])) (fun r z hk=>Has h hk∧hk.get bh=some (aK.cells [j.ah,j.ag] 25 false)) (fun r z hk=>Has h hk∧dc 3 h hk z (zs .i64 r)∧r.length≤1000000000) (dy V left j behind k_ i_)
 | 0,i0,fK,x,hh,az,aw,gv,aM=>by
   have bY:=aO.small
   have eD:=bL.small
   have jh:=az _ _ aM
   have HV_:=gM
   have Sz:=iS
   have dx:bJ (some (.slice 48)) (some j.ah)=some (Zn j.ab.length):=aO.len
   have q2:(decide (((i0:Nat):Int)<((j.ab.length:Nat):Int)))=false:=d!
   exact bI.out () AV.undef rfl (pk (d+65) _ _ hh _ hh (CN 2<|MM (ao 22 0 j.ah aM k!)<|VV dx<|VV (aQ 3 false false .i64 ((i0:Nat):Int) ((j.ab.length:Nat):Int))<|BB q2<|ZZ) k!) az o! ⟨aw,aM⟩ k!
 | c7+1,i0,fK,x,hh,az,aw,gv,aM=>by
   have bY:=aO.small
   have eD:=bL.small
   have jh:=az _ _ aM
   have HV_:=gM
   have Sz:=iS
   have dx:bJ (some (.slice 48)) (some j.ah)=some (Zn j.ab.length):=aO.len
   have q2:(decide (((i0:Nat):Int)<((j.ab.length:Nat):Int)))=true:=d!
   obtain ⟨VU,h4,gI,jL,mU⟩:=qd (d:=d) (h:=h) behind left i0 j R V bh aO bL gS o! (by assumption) (by assumption) o! o! (j.ab.g i0).aq.length 0 (decide (behind<0)) o! (fun k_=>(((x 0)::(Zi behind)::(Zi left)::(Pt bh)::rx x 4 3 ((Zn i0)::(AV.bool (decide (behind<0)))::(Zi 0)::(x 10)::(Zn i0)::(Pt bh)::j.ah::(Zn j.ab.length)::(AV.bool (decide (((i0:Nat):Int)<((j.ab.length:Nat):Int))))::(x 16)::(x 17)::(Zi behind)::(AV.bool (decide (behind<0)))::rx x 20 58 [])):List AV).getD k_ AV.undef) hh az aw aM
   have nh:=jL.y
   have Dk:hh.nx≤h4.nx:=jL.n
   have lI:Has h h4:=aw.trans jL.a
   rcases Bool.eq_false_or_eq_true (!(cq j i0 behind (j.ab.g i0).aq.length 0 (decide (behind<0)))) with f1 | f1
   · have u6:=ew 3 false true i0 1 o!
     exact bI.round (by simp only[dy,f1,aj,af]) (pk (d+65) _ _ hh _ h4 (CN 2<|MM (ao 22 0 j.ah aM k!)<|VV dx<|VV (aQ 3 false false .i64 ((i0:Nat):Int) ((j.ab.length:Nat):Int))<|BC q2<|VV (aQ 3 false true .i64 behind 0)<|CN 2<|LL gI<|CN 3<|BB f1<|BB f1<|BB f1<|BB f1<|BV f1 (qI true f1)<|TT<|CC<|VV u6<|CC<|ZZ) k!) o! _ k! (fun x=>mX behind left j R V bh aO bL gS gM iS rH uR bM pT c7 (i0+1) o! x h4 nh lI o! (jL.a _ _ aM))
   · have k6:=S8 (d:=d) j ((i0:Nat):Int) (aB.mono lI gS) (by first | omega | assumption) (by first | omega | assumption) (by first | omega | assumption) (by first | omega | assumption) nh
     rcases Bool.eq_false_or_eq_true (decide ((qF j ((i0:Nat):Int))<left)) with f2 | f2
     · have jX:=of_decide_eq_true f2
       have u8:=ew 3 false true i0 1 o!
       exact bI.round (by simp only[dy,f1,f2,aj,af]) (pk (d+65) _ _ hh _ h4 (CN 2<|MM (ao 22 0 j.ah aM k!)<|VV dx<|VV (aQ 3 false false .i64 ((i0:Nat):Int) ((j.ab.length:Nat):Int))<|BC q2<|VV (aQ 3 false true .i64 behind 0)<|CN 2<|LL gI<|CN 3<|BM f1 (ao 25 0 (AV.agg [j.ah,j.ag]) (jL.a _ _ aM) k!)<|BC f1<|BB f1<|EE k6<|BC f1<|BV f1 (aQ 3 false false .i64 (qF j ((i0:Nat):Int)) left)<|VV (bf (a:=some (AV.bool true)) (b:=some (AV.bool (decide ((qF j ((i0:Nat):Int))<left)))) f1)<|BC f2<|VV u8<|CC<|ZZ) k!) o! _ k! (fun x=>mX behind left j R V bh aO bL gS gM iS rH uR bM pT c7 (i0+1) o! x h4 nh lI o! (jL.a _ _ aM))
     · have jX:=of_decide_eq_false f2
       obtain ⟨h8,KW,kh,RR,cY,po⟩:=ik nh (aK.cells [(Zn i0)] 3 false)
       have iR:Has h h8:=lI.trans po
       have Wy:Has h4 h8:=po
       obtain ⟨Xy,Xz,IH⟩:=aO.elem (i:=i0) o!
       have ix9:b_ env (some (.slice 48)) (some j.ah) (some (Zn i0))=some (AV.ptr Xy Xz):=IH
       have F1:bm env h8 3 (AV.ptr Xy (Xz+1))=some (Zi (j.ab.g i0).aL):=(aO.has iR).part (t:=3) (j:=1) o! IH k! rfl
       rcases Bool.eq_false_or_eq_true (decide ((j.ab.g i0).aL<left)) with f3 | f3
       · have mu:=of_decide_eq_true f3
         obtain ⟨p15,q16,II⟩:=aO.elem (i:=i0) o!
         have Zf:b_ env (some (.slice 48)) (some j.ah) (some (Zn i0))=some (AV.ptr p15 q16):=II
         have RM:bm env h8 3 (AV.ptr p15 (q16+1))=some (Zi (j.ab.g i0).aL):=(aO.has iR).part (t:=3) (j:=1) o! II k! rfl
         obtain ⟨z18,h20,acK,Jt,acL,aeT,aeU⟩:=HV_ ((i0:Nat):Int) (IntKind.i64.wrap (left -((j.ab.g i0).aL))) o! o! (Sz i0 o! (acJ (by assumption)) o! o!) h8 kh iR
         have Td:=Jt.y
         have afE:h8.nx≤h20.nx:=Jt.n
         have Te:Has h h20:=iR.trans Jt.a
         have acM:Has h4 h20:=Wy.trans Jt.a
         have aeV:=acL.small
         obtain ⟨z22,h21,aax,acN,afF,acO,aeW⟩:=O' (h0:=h) (tys:= #[26,26]) (k:= .i64) Td bM Te o! (Jt.a _ _ cY) o! acL (by assumption) o! rfl rfl k! k! k! (bytes:=8) k! (z0:=Zi 0) k! rfl (by decide)
         have acP:Has h h21:=acO
         have c24:AV.same 20 (AV.agg [j.ah,j.ag]) (AV.agg [j.ah,j.ag])=true:=iC 18 (th aO.same (th bL.same OA))
         have c25:AV.same 20 j.ah j.ah=true:=aO.same 19
         exact bI.ret (((i0:Nat):Int)::(V ((i0:Nat):Int) (IntKind.i64.wrap (left -((j.ab.g i0).aL))))) z22 (by simp only[dy,f1,f2,f3,aj,af]) (pk (d+65) _ _ hh _ h21 (CN 2<|MM (ao 22 0 j.ah aM k!)<|VV dx<|VV (aQ 3 false false .i64 ((i0:Nat):Int) ((j.ab.length:Nat):Int))<|BC q2<|VV (aQ 3 false true .i64 behind 0)<|CN 2<|LL gI<|CN 3<|BM f1 (ao 25 0 (AV.agg [j.ah,j.ag]) (jL.a _ _ aM) k!)<|BC f1<|BB f1<|EE k6<|BC f1<|BV f1 (aQ 3 false false .i64 (qF j ((i0:Nat):Int)) left)<|VV (bf (a:=some (AV.bool true)) (b:=some (AV.bool (decide ((qF j ((i0:Nat):Int))<left)))) f1)<|BC f2<|NN KW (fun i=>(AV.slice i 0 1 1 false))<|CN 3<|MM (ao 22 0 j.ah (po _ _ (jL.a _ _ aM)) k!)<|CC<|VV ix9<|CC<|MM F1<|VV (bK 3 false false .i64 left (j.ab.g i0).aL)<|BC f3<|MM (ao 25 0 (AV.agg [j.ah,j.ag]) (po _ _ (jL.a _ _ aM)) k!)<|CN 3<|MM (ao 22 0 j.ah (po _ _ (jL.a _ _ aM)) k!)<|CC<|VV Zf<|CC<|MM RM<|CC<|EE acK<|PP (show cP env h20 #[26,26] (AV.slice h4.nx 0 1 1 false) z18=some (z22,h21) from aax)<|CC<|HH (ao 25 0 (AV.agg [j.ah,j.ag]) (po _ _ (jL.a _ _ aM)) k!)<|HH c24<|HH (ao 22 0 j.ah (po _ _ (jL.a _ _ aM)) k!)<|HH c25<|HH RM<|HH (show AV.same 20 (Zi (j.ab.g i0).aL) (Zi (j.ab.g i0).aL)=true from aJ 19 _ _)<|CN 2<|ZZ) k!) acN o! ⟨acP,aeW,(by first | omega | (simp<;>omega))⟩ k!
       · have mu:=of_decide_eq_false f3
         exact bI.ret ([((i0:Nat):Int)]) (AV.slice h4.nx 0 1 1 false) (by simp only[dy,f1,f2,f3,aj,af]) (pk (d+65) _ _ hh _ h8 (CN 2<|MM (ao 22 0 j.ah aM k!)<|VV dx<|VV (aQ 3 false false .i64 ((i0:Nat):Int) ((j.ab.length:Nat):Int))<|BC q2<|VV (aQ 3 false true .i64 behind 0)<|CN 2<|LL gI<|CN 3<|BM f1 (ao 25 0 (AV.agg [j.ah,j.ag]) (jL.a _ _ aM) k!)<|BC f1<|BB f1<|EE k6<|BC f1<|BV f1 (aQ 3 false false .i64 (qF j ((i0:Nat):Int)) left)<|VV (bf (a:=some (AV.bool true)) (b:=some (AV.bool (decide ((qF j ((i0:Nat):Int))<left)))) f1)<|BC f2<|NN KW (fun i=>(AV.slice i 0 1 1 false))<|CN 3<|MM (ao 22 0 j.ah (po _ _ (jL.a _ _ aM)) k!)<|CC<|VV ix9<|CC<|MM F1<|VV (bK 3 false false .i64 left (j.ab.g i0).aL)<|BB f3<|CN 2<|ZZ) k!) kh o! ⟨iR,(.inr ⟨by simp [zs],h4.nx,false,rfl,by omega,cY⟩:dc 3 h h8 (AV.slice h4.nx 0 1 1 false) (zs .i64 [((i0:Nat):Int)])),(by first | omega | (simp<;>omega))⟩ k!
def j7 (j:cF) (behind:Int) (left:Int) (V:Int→Int→List Int) (R:Int→Int→Prop):List Int:=(match (dy V left j behind j.ab.length 0) with | Sum.inl rv2=>([]) | Sum.inr uK=>uK)
theorem CV {d:Nat} {h:ak} (j:cF) (behind:Int) (left:Int) (V:Int→Int→List Int) (R:Int→Int→Prop) (bF:aB.ok h j) (ly:∀b l:Int,0≤b→b<(j.ab.length:Int)→R b l→∀hh,Tidy hh→Has h hh→∃z hk,cA (d+65) (.fn 30) [AV.agg [j.ah,j.ag],.int .i64 b,.int .i64 l] hh= .ret z hk∧bC hh hk∧bW hk .i64 3 z (V b l)∧V b l≠ []∧(V b l).length≤1000) (pq:∀i:Nat,i<j.ab.length→(behind<0∨∃q:Nat,q<(j.ab.g i).aq.length∧(j.ab.g i).aq.g q=behind)→left≤qF j (i:Int)→(j.ab.g i).aL<left→R (i:Int) (IntKind.i64.wrap (left -(j.ab.g i).aL))) (v5:Ac j.ab (xU j.ab)) (AK:j.ab.length≤64) (bM:Tidy h):∃z hk,cA (d+66) (.fn 30) [(AV.agg [j.ah,j.ag]),(Zi behind),(Zi left)] h= .ret z hk∧bC h hk∧bW hk .i64 3 z (j7 j behind left V R)∧dc 3 h hk z (zs .i64 (j7 j behind left V R)):=by
 have eS:=bF.1.small
 have eT:=bF.2.small
 obtain ⟨h1,bD,cb,ib,aI,cf⟩:=ik bM (aK.cells [j.ah,j.ag] 25 false)
 have bx:Has h h1:=cf
 cases dk:dy V left j behind j.ab.length 0 with
 | inl rv2=>
   obtain ⟨zo4,Eo,h3,cW,j0,oU,se,Lj⟩:=bI.n dk (mX (d:=d) (h:=h) behind left j R V h.nx bF.1 bF.2 bF (by assumption) (by assumption) o! o! bM o! j.ab.length 0 o! (fun k_=>(((AV.agg [j.ah,j.ag])::(Zi behind)::(Zi left)::(Pt h.nx)::AV.undef::AV.undef::AV.aD::(Zi 0)::gB 70):List AV).getD k_ AV.undef) h1 cb bx o! aI)
   have fB:Has h h3:=se
   have e:j7 j behind left V R=([]):=by simp only[j7,dk,aj,af]
   rw[e]
   exact ⟨.aD,eZ rfl (aR Tryz.func30 CU rfl (.inr rfl) (pk (d+65) _ _ h _ h3 (NN bD (fun i=>(Pt i))<|CN 2<|LL cW<|CC<|ZZ) k!) k!) bM ⟨j0,fB,by omega⟩ (P:=fun hh=>bW hh .i64 3 .aD []∧dc 3 h hh .aD (zs .i64 [])) ⟨bW.nil k! k!,.inl ⟨rfl,rfl⟩⟩ fun _=>⟨bW.nil k! k!,.inl ⟨rfl,rfl⟩⟩⟩
 | inr uK=>
   obtain ⟨zo4,Eo,h3,cW,j0,oU,se,zm,aal⟩:=bI.r dk (mX (d:=d) (h:=h) behind left j R V h.nx bF.1 bF.2 bF (by assumption) (by assumption) o! o! bM o! j.ab.length 0 o! (fun k_=>(((AV.agg [j.ah,j.ag])::(Zi behind)::(Zi left)::(Pt h.nx)::AV.undef::AV.undef::AV.aD::(Zi 0)::gB 70):List AV).getD k_ AV.undef) h1 cb bx o! aI)
   have fB:Has h h3:=se
   have e:j7 j behind left V R=uK:=by simp only[j7,dk,aj,af]
   rw[e]
   have oz:=dc.le (h0:=h) zm o!
   exact ⟨zo4,eZ rfl (aR Tryz.func30 CU rfl (.inr rfl) (pk (d+65) _ _ h _ h3 (NN bD (fun i=>(Pt i))<|CN 2<|LL cW<|ZZ) k!) k!) bM ⟨j0,fB,by omega⟩ (P:=fun hh=>bW hh .i64 3 zo4 uK∧dc 3 h hh zo4 (zs .i64 uK)) ⟨oz.zs o! k! k!,oz⟩ fun v=>⟨oz.MT v k! k!,oz.MV v⟩⟩
theorem Pf (v x:Int):imax (imax v x) x=imax v x:=by unfold imax;split<;>(try split)<;>omega
theorem Tr {V:Int→Int} {i0:Nat} {j:cF} {t:Int}:∀(k i:Nat) (v:Int),hT V i0 j t k i v=bif anyI (fun n=>decide (t=(j.ab.g i0).aq.g n)) k i then imax v (V (i0:Int)) else v
 | 0,i,v=>rfl
 | k+1,i,v=>by
   rw[hT,anyI]
   by_cases c:(j.ab.g i0).aq.g i=t
   · rw[decide_eq_true c,decide_eq_true c.symm,aj,Bool.true_or,aj,Tr k (i+1)]
     cases anyI (fun n=>decide (t=(j.ab.g i0).aq.g n)) k (i+1) with
     | false=>rfl
     | true=>exact Pf _ _
   · rw[decide_eq_false c,decide_eq_false (fun e=>c e.symm),af,Bool.false_or,Tr k (i+1)]
theorem XX {V:Int→Int} {j:cF} {t:Int}:∀(k i:Nat) (v:Int),j6 V j t k i v=pX V j.ab t k i v
 | 0,i,v=>rfl
 | k+1,i,v=>by
   rw[j6,pX,Tr,←CG,XX k (i+1)]
theorem NC {j:cF} {ρ:Nat→Nat} (A:Ac j.ab ρ):∀(n:Nat) (t:Int),RN j.ab ρ n t→abF j n t=rL j.ab n t
 | 0,t,r=>rfl
 | n+1,t,r=>by
   rw[abF,rL,tO,XX,mL (fun i hi c=>NC A n (i:Int) (r.step A i hi c)) _ _ _ (Nat.zero_add _),Int.add_comm]
theorem GP {j:cF} (F:eQ j) {t:Int} (h0:0≤t) (h1:t<(j.ab.length:Int)):qF j t=iw j.ab t:=by
 have nt:=F.nt
 rw[qF,NC F.ac 65 t ⟨h0,h1,by omega⟩,iw,nv F.ac (j.ab.length+1) 65 t o! ⟨h0,h1,by omega⟩]
def LO (j:cF):Nat→Int→Int→List Int
 | 0,_,_=> []
 | n+1,b,l=>j7 j b l (LO j n) (fun _ _=>True)
theorem GQ {V:Int→Int→List Int} {B:Nat} (hB:∀b l,(V b l).length≤B) {left:Int} {j:cF} {b:Int}:∀(k i:Nat) (L:List Int),dy V left j b k i=Sum.inr L→L.length≤B+1
 | 0,i,L,h=>by cases h
 | k+1,i,L,h=>by
   rw[dy] at h
   cases c1:(!(cq j i b (j.ab.g i).aq.length 0 (decide (b<0)))) with
   | true=>rw[c1,aj] at h;exact GQ hB k (i+1) L h
   | false=>
     rw[c1,af] at h
     cases c2:decide ((qF j ((i:Nat):Int))<left) with
     | true=>rw[c2,aj] at h;exact GQ hB k (i+1) L h
     | false=>
       rw[c2,af] at h
       cases c3:decide ((j.ab.g i).aL<left) with
       | true=>rw[c3,aj] at h;cases h;rw[List.length_cons];exact Nat.succ_le_succ (hB _ _)
       | false=>rw[c3,af] at h;cases h;simp
theorem Wz {V:Int→Int→List Int} {B:Nat} (hB:∀b l,(V b l).length≤B) (j:cF) (b l:Int) (R:Int→Int→Prop):(j7 j b l V R).length≤B+1:=by
 rw[j7]
 cases c:dy V l j b j.ab.length 0 with
 | inl _=>simp
 | inr L=>exact GQ hB _ _ L c
theorem ND (j:cF):∀(n:Nat) (b l:Int),(LO j n b l).length≤n
 | 0,b,l=>Nat.le_refl _
 | n+1,b,l=>Wz (ND j n) j b l _
theorem A1 {j:cF} {i0:Nat} {b:Int}:∀(k i:Nat) (v:Bool),(v=true∨∃q:Nat,i≤q∧q<i+k∧(j.ab.g i0).aq.g q=b)→cq j i0 b k i v=true
 | 0,i,v,h=>by
   rcases h with e | ⟨q,h1,h2,_⟩
   · exact e
   · omega
 | k+1,i,v,h=>by
   rw[cq]
   cases v with
   | true=>rw[aj];exact A1 k (i+1) true (.inl rfl)
   | false=>
     rw[af]
     rcases h with e | ⟨q,h1,h2,h3⟩
     · cases e
     · by_cases z:q=i
       · subst z;exact A1 k (q+1) _ (.inl (decide_eq_true h3))
       · exact A1 k (i+1) _ (.inr ⟨q,by omega,by omega,h3⟩)
theorem Ts {V:Int→Int→List Int} {left:Int} {j:cF} {b:Int}:∀(k i:Nat),(∃q:Nat,i≤q∧q<i+k∧cq j q b (j.ab.g q).aq.length 0 (decide (b<0))=true∧left≤qF j (q:Int))→∃L,dy V left j b k i=Sum.inr L∧L≠ []
 | 0,i,⟨q,h1,h2,_⟩=>by omega
 | k+1,i,⟨q,h1,h2,h3,h4⟩=>by
   rw[dy]
   by_cases z:q=i
   · subst z
     rw[h3,Bool.not_true,af,decide_eq_false o!,af]
     cases decide ((j.ab.g q).aL<left) with
     | true=>exact ⟨_,rfl,by simp⟩
     | false=>exact ⟨_,rfl,by simp⟩
   · have ih:=Ts (V:=V) (left:=left) (j:=j) (b:=b) k (i+1) ⟨q,by omega,by omega,h3,h4⟩
     cases (!(cq j i b (j.ab.g i).aq.length 0 (decide (b<0)))) with
     | true=>exact ih
     | false=>
       rw[af]
       cases decide ((qF j ((i:Nat):Int))<left) with
       | true=>exact ih
       | false=>
         rw[af]
         cases decide ((j.ab.g i).aL<left) with
         | true=>exact ⟨_,rfl,by simp⟩
         | false=>exact ⟨_,rfl,by simp⟩
def RC (j:cF) (n:Nat) (b l:Int):Prop:=RN j.ab (xU j.ab) n b∧0<l∧l≤6500000∧∃q:Nat,q<j.ab.length∧aY (j.ab.g q).aq b=true∧l≤iw j.ab (q:Int)
theorem RC.step {j:cF} (F:eQ j) {n:Nat} {b l:Int} (hn:b<0∧65≤n+1∨RN j.ab (xU j.ab) (n+1) b):∀i:Nat,i<j.ab.length→(b<0∨∃q:Nat,q<(j.ab.g i).aq.length∧(j.ab.g i).aq.g q=b)→l≤qF j (i:Int)→(j.ab.g i).aL<l→RN j.ab (xU j.ab) n (i:Int)→RC j n (i:Int) (IntKind.i64.wrap (l -(j.ab.g i).aL)):=fun i hi hb hl ht r=>by
 have tk:=F.tk i hi
 rw[GP F o! o!] at hl
 have bd:=Lu F.tk F.nt (t:=(i:Int)) o! o!
 have eq:=SX F.ac F.tk F.nt (t:=(i:Int)) o! o!
 rw[Int.toNat_natCast] at eq
 rw[wrap_i64 o! o!]
 refine ⟨r,by omega,by omega,?_⟩
 rcases GD (L:=iw j.ab) (ts:=j.ab) (t:=(i:Int)) j.ab.length 0 0 with e | ⟨q,_,h2,h3,h4⟩
 · omega
 · exact ⟨q,by omega,h3,by omega⟩
theorem RN.up {j:cF} (F:eQ j) {n:Nat} {b:Int} (hn:b<0∧65≤n∨RN j.ab (xU j.ab) (n+1) b):∀i:Nat,i<j.ab.length→(b<0∨∃q:Nat,q<(j.ab.g i).aq.length∧(j.ab.g i).aq.g q=b)→RN j.ab (xU j.ab) n (i:Int):=fun i hi hb=>by
 have nt:=F.nt
 rcases hn with ⟨h1,h2⟩ | r
 · exact ⟨by omega,by omega,by omega⟩
 · rcases hb with h | ⟨q,hq,e⟩
   · have:=r.1;omega
   · exact r.XR F.ac i hi q hq e
theorem XY {d:Nat} {h:ak} {j:cF} (F:eQ j) (bF:aB.ok h j):∀(n:Nat) (b l:Int),n≤900→0≤b→b<(j.ab.length:Int)→RC j n b l→∀hh,Tidy hh→Has h hh→∃z hk,cA (d+n+65) (.fn 30) [AV.agg [j.ah,j.ag],.int .i64 b,.int .i64 l] hh= .ret z hk∧bC hh hk∧bW hk .i64 3 z (LO j n b l)∧LO j n b l≠ []∧(LO j n b l).length≤1000
 | 0,b,l,_,_,_,r,hh,y,a=>by have:=r.1.2.2;have:=F.ac.le b.toNat;omega
 | n+1,b,l,hn,h0,h1,r,hh,y,a=>by
   obtain ⟨z,hk,e,G,zz,_⟩:=CV (d:=d+n) j b l (LO j n) (RC j n) (aB.mono a bF) (fun b' l' p0 p1 r' h2 y2 a2=>XY F bF n b' l' o! p0 p1 r' h2 y2 (a.trans a2)) (fun i hi hb hl ht=>RC.step F (.inr r.1) i hi hb hl ht (RN.up F (.inr r.1) i hi hb)) F.ac F.nt y
   have ln:=ND j (n+1) b l
   obtain ⟨q,q1,q2,q3⟩:=r.2.2.2
   obtain ⟨w,w1,w2⟩:=Lq q2
   obtain ⟨L,l1,l2⟩:=Ts (V:=LO j n) (left:=l) (j:=j) (b:=b) j.ab.length 0 ⟨q,Nat.zero_le _,by omega,A1 _ _ _ (.inr ⟨w,Nat.zero_le _,by omega,w2⟩),by rw[GP F o! o!];exact q3⟩
   have e0:LO j (n+1) b l=L:=by rw[LO,j7,l1]
   refine ⟨z,hk,?_,G,zz,by rw[e0];exact l2,by omega⟩
   rw[show d+(n+1)+65=d+n+66 by omega];exact e
def Tt (j:cF) (l:Int):List Int:=LO j 66 (-1) l
theorem aay {d:Nat} {h:ak} (j:cF) (behind l:Int) (bF:aB.ok h j) (ly:eQ j) (pq:behind= -1) (y:Tidy h):∃z hk,cA (d+131) (.fn 30) [AV.agg [j.ah,j.ag],.int .i64 behind,.int .i64 l] h= .ret z hk∧bC h hk∧bW hk .i64 3 z (Tt j l)∧dc 3 h hk z (zs .i64 (Tt j l)):=by
 subst pq
 exact CV (d:=d+65) j (-1) l (LO j 65) (RC j 65) bF (fun b' l' p0 p1 r' h2 y2 a2=>XY ly bF 65 b' l' o! p0 p1 r' h2 y2 a2) (fun i hi hb hl ht=>RC.step ly (.inl ⟨by omega,by omega⟩) i hi hb hl ht (RN.up ly (.inl ⟨by omega,by omega⟩) i hi hb)) ly.ac ly.nt y
end
end Go.Proofs.aE
