import Derived.Test.YtijehnelcbdlgaaGreatW0
import Derived.Test.YtijehnelcbdlgaaGreatW3
import Derived.Test.YtijehnelcbdlgaaGreatW4
import Derived.Test.YtijehnelcbdlgaaGreatW9
import Derived.Test.YtijehnelcbdlgaaGreatW8
import Derived.Test.YtijehnelcbdlgaaGreatW7
namespace Go.Proofs.aE
open Go.Proofs Ab
noncomputable section
set_option maxRecDepth 100000
set_option maxHeartbeats 4000000
set_option linter.unusedVariables false
set_option linter.unusedSimpArgs false
def hU:Code:=(Tryz.f9.body).getD .skip
theorem uy:Tryz.f9.body=some hU:=by kernel_rfl
def Ju:Code:=(bz hU).getD 0 .skip
def Jv:Code:=(bz hU).getD 1 .skip
def Jw:Code:=(bz hU).getD 2 .skip
def br (j:cF):Nat→Nat→Int→Int
 | 0,_,aN=>aN
 | c7+1,i0,aN=>br j c7 (i0+1) (imax aN (qF j ((i0:Nat):Int)))
theorem rQ {d:Nat} {h:ak} (j:cF) (bh:Nat) (dg:Nat) (aO:aH h j.ah j.ab) (bL:aH h j.ag j.ae) (gS:aB.ok h j) (gM:eQ j):∀(k_ i_:Nat) (aN:Int) (_:i_+k_=j.ab.length) (x:Nat→AV) (hh:ak) (az:Tidy hh) (aw:Has h hh) (aM:hh.get bh=some (aK.cells [j.ah,j.ag] 25 false)) (cS:hh.get dg=some (aK.cells [(Zi 0),AV.aD,(Zi 0)] 28 false)),bu (cA (d+131)) Ju ⟨((x 0)::(Pt bh)::(Pt dg)::(x 3)::(x 4)::(Zi aN)::(Zn i_)::rx x 7 78 []),hh,[],.no⟩ (.exit 0) hh (fun r y=>((y 0)::(Pt bh)::(Pt dg)::(y 3)::(y 4)::(Zi r)::rx y 6 79 [])) (fun r=>True) (br j k_ i_ aN)
 | 0,i0,aN,fK,x,hh,az,aw,aM,cS=>by
   have bY:=aO.small
   have eD:=bL.small
   have jh:=az _ _ aM
   have Az:=az _ _ cS
   have dx:bJ (some (.slice 48)) (some j.ah)=some (Zn j.ab.length):=(aO.has aw).len
   have q2:(decide (((i0:Nat):Int)<((j.ab.length:Nat):Int)))=false:=d!
   exact bu.out aN rfl (pk (d+131) _ _ hh _ hh (CN 2<|MM (ao 22 0 j.ah aM k!)<|VV dx<|VV (aQ 3 false false .i64 ((i0:Nat):Int) ((j.ab.length:Nat):Int))<|BB q2<|ZZ) k!) (bC.refl az) trivial k!
 | c7+1,i0,aN,fK,x,hh,az,aw,aM,cS=>by
   have bY:=aO.small
   have eD:=bL.small
   have jh:=az _ _ aM
   have Az:=az _ _ cS
   have F_:=gM
   have dx:bJ (some (.slice 48)) (some j.ah)=some (Zn j.ab.length):=(aO.has aw).len
   have q2:(decide (((i0:Nat):Int)<((j.ab.length:Nat):Int)))=true:=d!
   have k3:=S8 (d:=d+66) j ((i0:Nat):Int) (aB.mono aw gS) (by first | omega | assumption | rfl | exact F_.ac | exact F_.nt | exact F_.tk) (by first | omega | assumption | rfl | exact F_.ac | exact F_.nt | exact F_.tk) (by first | omega | assumption | rfl | exact F_.ac | exact F_.nt | exact F_.tk) (by first | omega | assumption | rfl | exact F_.ac | exact F_.nt | exact F_.tk) az
   have u4:=ew 3 false true i0 1 o!
   exact bu.round (by simp only[br,aj,af]) (pk (d+131) _ _ hh _ hh (CN 2<|MM (ao 22 0 j.ah aM k!)<|VV dx<|VV (aQ 3 false false .i64 ((i0:Nat):Int) ((j.ab.length:Nat):Int))<|BC q2<|MM (ao 25 0 (AV.agg [j.ah,j.ag]) aM k!)<|CC<|EE k3<|CN 3<|VV u4<|CC<|ZZ) k!) (bC.refl az) _ k! (fun x=>rQ j bh dg aO bL gS gM c7 (i0+1) (imax aN (qF j ((i0:Nat):Int))) o! x hh az aw aM cS)
def cH (j:cF) (i9:Nat):Nat→Int→Int
 | 0,eA=>eA
 | RZ+1,eA=>(bif (decide (eA≤100000)) then (bif (decide ((nk (j.ae.g i9) eA)<(cO j ((i9:Nat):Int)))) then cH j i9 RZ (eA+1) else eA) else eA)
theorem oh {d:Nat} {h:ak} (b2:Nat) (mo:Int) (i9:Nat) (j:cF) (m:Int) (r:Int) (lH:Nat) (su:Nat) (mC:aH h j.ah j.ab) (oS:aH h j.ag j.ae) (Di:aB.ok h j) (aeX:i9<j.ae.length):∀(k_:Nat) (eA:Int) (_:((100001:Int) - eA≤(k_:Int))) (_:(0≤eA∧eA≤100001)) (x:Nat→AV) (hh:ak) (az:Tidy hh) (aw:Has h hh) (fU:hh.get lH=some (aK.cells [j.ah,j.ag] 25 false)) (mg:hh.get su=some (aK.cells [(Zi m),AV.aD,(Zi r)] 28 false)),bu (cA (d+131)) Jw ⟨((x 0)::(Pt lH)::(Pt b2)::(x 3)::(x 4)::(Zi mo)::(x 6)::(Pt su)::(Zn i9)::(Zi (cO j ((i9:Nat):Int)))::(Zi eA)::rx x 11 74 []),hh,[],.no⟩ (.exit 4) hh (fun r y=>((y 0)::(Pt lH)::(Pt b2)::(y 3)::(y 4)::(Zi mo)::(y 6)::(Pt su)::(Zn i9)::(Zi (cO j ((i9:Nat):Int)))::(Zi r)::rx y 11 74 [])) (fun r=>(0≤r∧r≤100001)) (cH j i9 k_ eA)
 | 0,eA,fK,dt,x,hh,az,aw,fU,mg=>by
   have B8:=mC.small
   have B9:=oS.small
   have R1:=az _ _ fU
   have Zy:=az _ _ mg
   have q1:(decide (eA≤100000))=false:=d!
   exact bu.out eA rfl (pk (d+131) _ _ hh _ hh (CC<|VV (kI 3 false true .i64 eA 100000)<|CC<|BB q1<|BB q1<|BB q1<|BB q1<|BB q1<|BB q1<|BB q1<|BB q1<|BV q1 (vK false q1)<|FF<|ZZ) k!) (bC.refl az) (show (0≤eA∧eA≤100001) from by omega) k!
 | RZ+1,eA,fK,dt,x,hh,az,aw,fU,mg=>by
   have B8:=mC.small
   have B9:=oS.small
   have R1:=az _ _ fU
   have Zy:=az _ _ mg
   rcases Bool.eq_false_or_eq_true (decide (eA≤100000)) with f0 | f0
   · have fw:=of_decide_eq_true f0
     obtain ⟨p3,q4,eb⟩:=(oS.has aw).elem (i:=i9) o!
     have jE:b_ env (some (.slice 45)) (some j.ag) (some (Zn i9))=some (AV.ptr p3 q4):=eb
     have jK:bm env hh 45 (AV.ptr p3 q4)=some (AV.agg [(AV.str (j.ae.g i9).name),(Zi (j.ae.g i9).aC),(j.ae.g i9).cE]):=(oS.has aw).load o! eb
     have k6:=M1 (d:=d+130) (j.ae.g i9) eA ((oS.has aw).ok (i:=i9) o!) az
     rcases Bool.eq_false_or_eq_true (decide ((nk (j.ae.g i9) eA)<(cO j ((i9:Nat):Int)))) with f1 | f1
     · have ea:=of_decide_eq_true f1
       have w8:IntKind.i64.wrap (eA+1)=eA+1:=wrap_i64 o! o!
       exact bu.round (by simp only[cH,f0,f1,aj,af]) (pk (d+131) _ _ hh _ hh (CC<|VV (kI 3 false true .i64 eA 100000)<|CC<|BC f0<|BC f0<|BM f0 (ao 23 1 j.ag fU k!)<|BC f0<|BV f0 jE<|BM f0 jK<|BC f0<|BB f0<|EE k6<|BV f0 (bK 3 false false .i64 (cO j ((i9:Nat):Int)) (nk (j.ae.g i9) eA))<|VV (nK (decide ((nk (j.ae.g i9) eA)<(cO j ((i9:Nat):Int)))) false f0)<|BC f1<|VV (Ft 3 false true w8)<|CC<|ZZ) k!) (bC.refl az) _ k! (fun x=>oh b2 mo i9 j m r lH su mC oS Di aeX RZ (eA+1) o! (show (0≤(eA+1)∧(eA+1)≤100001) from by omega) x hh az aw fU mg)
     · have ea:=of_decide_eq_false f1
       exact bu.out eA (by simp only[cH,f0,f1,aj,af]) (pk (d+131) _ _ hh _ hh (CC<|VV (kI 3 false true .i64 eA 100000)<|CC<|BC f0<|BC f0<|BM f0 (ao 23 1 j.ag fU k!)<|BC f0<|BV f0 jE<|BM f0 jK<|BC f0<|BB f0<|EE k6<|BV f0 (bK 3 false false .i64 (cO j ((i9:Nat):Int)) (nk (j.ae.g i9) eA))<|VV (nK (decide ((nk (j.ae.g i9) eA)<(cO j ((i9:Nat):Int)))) false f0)<|BB f1<|ZZ) k!) (bC.refl az) (show (0≤eA∧eA≤100001) from by omega) k!
   · have fw:=of_decide_eq_false f0
     exact bu.out eA (by simp only[cH,f0,aj,af]) (pk (d+131) _ _ hh _ hh (CC<|VV (kI 3 false true .i64 eA 100000)<|CC<|BB f0<|BB f0<|BB f0<|BB f0<|BB f0<|BB f0<|BB f0<|BB f0<|BV f0 (vK false f0)<|FF<|ZZ) k!) (bC.refl az) (show (0≤eA∧eA≤100001) from by omega) k!
theorem GR {call:a_} {c:Code} {s:St} {ex:kR} {h0 hh:ak} {b6:Nat} {tn:Int×Int→AV→(Nat→AV)→List AV} {Q:Int×Int→ak→Prop} {o:(Int×Int)⊕ Unit} (k:Kept b6 h0 hh) (x:bI (σ:=Int×Int) (ρ:=Unit) call c s ex hh tn (fun _ _ _=> []) (fun v _ hk=>Q v hk∧Kept b6 hh hk) (fun _ _ _=>True) o):bI (σ:=Int×Int) (ρ:=Unit) call c s ex hh tn (fun _ _ _=> []) (fun v _ hk=>Q v hk∧Kept b6 h0 hk) (fun _ _ _=>True) o:=by
 cases o with
 | inl v=>obtain ⟨z,y,hk,e,y1,n1,q,kp⟩:=x;exact ⟨z,y,hk,e,y1,n1,q,k.trans kp⟩
 | inr r=>exact x
def Jx (j:cF) (i:Nat):Int:=cH j i ((100001:Int) - 0).toNat 0
def ig (j:cF):Nat→Nat→Int→Int→Int×Int
 | 0,_,m,r=>(m,r)
 | k+1,i,m,r=>bif decide (0<cO j ((i:Nat):Int))&&decide (m<Jx j i) then ig j k (i+1) (Jx j i) ((i:Nat):Int) else ig j k (i+1) m r
theorem Jy {d:Nat} {h:ak} {j:cF} {mo:Int} {b1 b2 b7:Nat} (bM:Tidy h) (bF:aB.ok h j) (F_:eQ j) (n1:h.nx≤b1) (n7:h.nx≤b7) (d17:b1≠b7):∀(k i9:Nat) (m:Int) (r:Int) (x:Nat→AV) (hh:ak) (fK:i9+k=j.ae.length) (az:Tidy hh) (aw:Has h hh) (gv:h.nx≤hh.nx) (g1:hh.get b1=some (.cells [j.ah,j.ag] 25 false)) (g7:hh.get b7=some (.cells [.int .i64 m,.aD,.int .i64 r] 28 false)),
 bI (σ:=Int×Int) (ρ:=Unit) (cA (d+131)) Jv ⟨((x 0)::(Pt b1)::(Pt b2)::(x 3)::(x 4)::(Zi mo)::(x 6)::(Pt b7)::(Zn i9)::rx x 9 76 []),hh,[],.no⟩ (.exit 2) hh (fun v z y=>((y 0)::(Pt b1)::(Pt b2)::(y 3)::(y 4)::(Zi mo)::(y 6)::(Pt b7)::rx y 8 77 [])) (fun _ _ _=> []) (fun v z hk=>(Has h hk∧hk.get b1=some (.cells [j.ah,j.ag] 25 false)∧hk.get b7=some (.cells [.int .i64 v.1,.aD,.int .i64 v.2] 28 false))∧Kept b7 hh hk) (fun _ _ _=>True) (Sum.inl (ig j k i9 m r))
 | 0,i9,m,r,x,hh,fK,az,aw,gv,g1,g7=>by
   have T1:=az _ _ g1
   have T7:=az _ _ g7
   have sr:=bF.2.small
   have dx:bJ (some (.slice 45)) (some j.ag)=some (Zn j.ae.length):=bF.2.len
   have q2:(decide (((i9:Nat):Int)<((j.ae.length:Nat):Int)))=false:=d!
   exact bI.out (m,r) AV.undef rfl (pk (d+131) _ _ hh _ hh (CN 2<|MM (ao 23 1 j.ag g1 k!)<|VV dx<|VV (aQ 3 false false .i64 ((i9:Nat):Int) ((j.ae.length:Nat):Int))<|BB q2<|ZZ) k!) az (Nat.le_refl _) ⟨⟨aw,g1,g7⟩,Kept.refl _ _⟩ k!
 | k+1,i9,m,r,x,hh,fK,az,aw,gv,g1,g7=>by
   have T1:=az _ _ g1
   have T7:=az _ _ g7
   have sr:=bF.2.small
   rw[ig]
   rcases Int.lt_or_le 0 (cO j ((i9:Nat):Int)) with c1 | c1
   · rcases Int.lt_or_le m (Jx j i9) with c2 | c2
     · rw[decide_eq_true c1,decide_eq_true c2,Bool.and_self,aj]
       unfold Jx at c2 ⊢
       have dx:bJ (some (.slice 45)) (some j.ag)=some (Zn j.ae.length):=bF.2.len
       have q2:(decide (((i9:Nat):Int)<((j.ae.length:Nat):Int)))=true:=d!
       have k3:=xA (d:=d+129) j ((i9:Nat):Int) (aB.mono aw bF) az
       obtain ⟨tp,h5,cC,b4,pC⟩:=oh (d:=d) (h:=h) b2 mo i9 j m r b1 b7 bF.1 bF.2 bF o! ((100001:Int) - 0).toNat 0 o! (show (0≤0∧0≤100001) from by omega) (fun k_=>(((x 0)::(Pt b1)::(Pt b2)::(x 3)::(x 4)::(Zi mo)::(x 6)::(Pt b7)::(Zn i9)::(Zi (cO j ((i9:Nat):Int)))::(Zi 0)::rx x 11 26 ((Zn i9)::(AV.ptr b1 1)::j.ag::(Zn j.ae.length)::(AV.bool (decide (((i9:Nat):Int)<((j.ae.length:Nat):Int))))::(x 42)::(x 43)::(AV.agg [j.ah,j.ag])::(Zn i9)::(Zi (cO j ((i9:Nat):Int)))::rx x 47 38 [])):List AV).getD k_ AV.undef) hh az aw g1 g7
       have NF:=(show (0≤(cH j i9 ((100001:Int) - 0).toNat 0)∧(cH j i9 ((100001:Int) - 0).toNat 0)≤100001) from pC)
       have js:=b4.y
       have ph:hh.nx≤h5.nx:=b4.n
       have eV:Has h h5:=aw.trans b4.a
       have q6:(decide (0<(cO j ((i9:Nat):Int))))=true:=d!
       have q7:(decide (m<(cH j i9 ((100001:Int) - 0).toNat 0)))=true:=d!
       obtain ⟨h8,uJ,kh,RR,cY,hF⟩:=nJ (t:=28) (n:=3) (i:=b7) (L:=[(Zi (cH j i9 ((100001:Int) - 0).toNat 0)),AV.aD,(Zn i9)]) js (b4.a _ _ g7) k! rfl rfl (by simp only[AV.cells,List.all_cons,List.all_nil,Bool.and_true,Bool.and_self,fp,dV,fq,ft,db,iF,iG,iH,iI,iJ,fu])
       have iR:Has h h8:=Has.cI eV hF bM o!
       have u9:=ew 3 false true i9 1 o!
       have key:=fun x=>Jy (d:=d) (b1:=b1) (b2:=b2) (mo:=mo) bM bF F_ n1 n7 d17 k (i9+1) (Jx j i9) ((i9:Nat):Int) x h8 o! kh iR o! (hF _ _ o! (b4.a _ _ g1)) cY
       exact bI.round rfl (pk (d+131) _ _ hh _ h8 (CN 2<|MM (ao 23 1 j.ag g1 k!)<|VV dx<|VV (aQ 3 false false .i64 ((i9:Nat):Int) ((j.ae.length:Nat):Int))<|BM q2 (ao 25 0 (AV.agg [j.ah,j.ag]) g1 k!)<|CC<|EE k3<|CN 2<|LL cC<|CC<|VV (bK 3 false true .i64 (cO j ((i9:Nat):Int)) 0)<|CC<|BC q6<|BC q6<|BM q6 (ao 3 0 (Zi m) (b4.a _ _ g7) k!)<|BV q6 (bK 3 false false .i64 (cH j i9 ((100001:Int) - 0).toNat 0) m)<|VV (nK (decide (m<(cH j i9 ((100001:Int) - 0).toNat 0))) false q6)<|BB q7<|CN 3<|SS uJ<|CC<|VV u9<|CC<|ZZ) k!) o! _ k! (fun x=>GR (b4.a.kept.trans hF) (key x))
     · rw[decide_eq_true c1,decide_eq_false (by omega:¬m<Jx j i9),Bool.true_and,af]
       unfold Jx at c2
       have dx:bJ (some (.slice 45)) (some j.ag)=some (Zn j.ae.length):=bF.2.len
       have q2:(decide (((i9:Nat):Int)<((j.ae.length:Nat):Int)))=true:=d!
       have k3:=xA (d:=d+129) j ((i9:Nat):Int) (aB.mono aw bF) az
       obtain ⟨tp,h5,cC,b4,pC⟩:=oh (d:=d) (h:=h) b2 mo i9 j m r b1 b7 bF.1 bF.2 bF o! ((100001:Int) - 0).toNat 0 o! (show (0≤0∧0≤100001) from by omega) (fun k_=>(((x 0)::(Pt b1)::(Pt b2)::(x 3)::(x 4)::(Zi mo)::(x 6)::(Pt b7)::(Zn i9)::(Zi (cO j ((i9:Nat):Int)))::(Zi 0)::rx x 11 26 ((Zn i9)::(AV.ptr b1 1)::j.ag::(Zn j.ae.length)::(AV.bool (decide (((i9:Nat):Int)<((j.ae.length:Nat):Int))))::(x 42)::(x 43)::(AV.agg [j.ah,j.ag])::(Zn i9)::(Zi (cO j ((i9:Nat):Int)))::rx x 47 38 [])):List AV).getD k_ AV.undef) hh az aw g1 g7
       have NF:=(show (0≤(cH j i9 ((100001:Int) - 0).toNat 0)∧(cH j i9 ((100001:Int) - 0).toNat 0)≤100001) from pC)
       have js:=b4.y
       have ph:hh.nx≤h5.nx:=b4.n
       have eV:Has h h5:=aw.trans b4.a
       have q6:(decide (0<(cO j ((i9:Nat):Int))))=true:=d!
       have q7:(decide (m<(cH j i9 ((100001:Int) - 0).toNat 0)))=false:=d!
       have u8:=ew 3 false true i9 1 o!
       have key:=fun x=>Jy (d:=d) (b1:=b1) (b2:=b2) (mo:=mo) bM bF F_ n1 n7 d17 k (i9+1) m r x h5 o! js eV o! (b4.a _ _ g1) (b4.a _ _ g7)
       exact bI.round rfl (pk (d+131) _ _ hh _ h5 (CN 2<|MM (ao 23 1 j.ag g1 k!)<|VV dx<|VV (aQ 3 false false .i64 ((i9:Nat):Int) ((j.ae.length:Nat):Int))<|BM q2 (ao 25 0 (AV.agg [j.ah,j.ag]) g1 k!)<|CC<|EE k3<|CN 2<|LL cC<|CC<|VV (bK 3 false true .i64 (cO j ((i9:Nat):Int)) 0)<|CC<|BC q6<|BC q6<|BM q6 (ao 3 0 (Zi m) (b4.a _ _ g7) k!)<|BV q6 (bK 3 false false .i64 (cH j i9 ((100001:Int) - 0).toNat 0) m)<|VV (nK (decide (m<(cH j i9 ((100001:Int) - 0).toNat 0))) false q6)<|BC q7<|VV u8<|CC<|ZZ) k!) o! _ k! (fun x=>GR b4.a.kept (key x))
   · rw[decide_eq_false (by omega:¬0<cO j ((i9:Nat):Int)),Bool.false_and,af]
     have dx:bJ (some (.slice 45)) (some j.ag)=some (Zn j.ae.length):=bF.2.len
     have q2:(decide (((i9:Nat):Int)<((j.ae.length:Nat):Int)))=true:=d!
     have k3:=xA (d:=d+129) j ((i9:Nat):Int) (aB.mono aw bF) az
     obtain ⟨tp,h5,cC,b4,pC⟩:=oh (d:=d) (h:=h) b2 mo i9 j m r b1 b7 bF.1 bF.2 bF o! ((100001:Int) - 0).toNat 0 o! (show (0≤0∧0≤100001) from by omega) (fun k_=>(((x 0)::(Pt b1)::(Pt b2)::(x 3)::(x 4)::(Zi mo)::(x 6)::(Pt b7)::(Zn i9)::(Zi (cO j ((i9:Nat):Int)))::(Zi 0)::rx x 11 26 ((Zn i9)::(AV.ptr b1 1)::j.ag::(Zn j.ae.length)::(AV.bool (decide (((i9:Nat):Int)<((j.ae.length:Nat):Int))))::(x 42)::(x 43)::(AV.agg [j.ah,j.ag])::(Zn i9)::(Zi (cO j ((i9:Nat):Int)))::rx x 47 38 [])):List AV).getD k_ AV.undef) hh az aw g1 g7
     have NF:=(show (0≤(cH j i9 ((100001:Int) - 0).toNat 0)∧(cH j i9 ((100001:Int) - 0).toNat 0)≤100001) from pC)
     have js:=b4.y
     have ph:hh.nx≤h5.nx:=b4.n
     have eV:Has h h5:=aw.trans b4.a
     have q6:(decide (0<(cO j ((i9:Nat):Int))))=false:=d!
     have u7:=ew 3 false true i9 1 o!
     have key:=fun x=>Jy (d:=d) (b1:=b1) (b2:=b2) (mo:=mo) bM bF F_ n1 n7 d17 k (i9+1) m r x h5 o! js eV o! (b4.a _ _ g1) (b4.a _ _ g7)
     exact bI.round rfl (pk (d+131) _ _ hh _ h5 (CN 2<|MM (ao 23 1 j.ag g1 k!)<|VV dx<|VV (aQ 3 false false .i64 ((i9:Nat):Int) ((j.ae.length:Nat):Int))<|BM q2 (ao 25 0 (AV.agg [j.ah,j.ag]) g1 k!)<|CC<|EE k3<|CN 2<|LL cC<|CC<|VV (bK 3 false true .i64 (cO j ((i9:Nat):Int)) 0)<|CC<|BB q6<|BB q6<|BB q6<|BV q6 (vK false q6)<|FF<|CC<|VV u7<|CC<|ZZ) k!) o! _ k! (fun x=>GR b4.a.kept (key x))
theorem CW (j:cF):cy j=b9 j:=Tq j fun _ _=>⟨congrArg List.length (Ez j),O4 j⟩
def CX (j:cF):Int:=cd (br j j.ab.length 0 0) 100001
def GS (j:cF):Int×Int:=ig j j.ae.length 0 (CX j) 0
def ar (j:cF):FlR:=bif decide (b9 j=0) then (bif decide (((j.ab.length:Nat):Int)=0) then ⟨0,[],0,0⟩ else
 bif decide ((GS j).1=CX j) then ⟨(GS j).1,Tt j (GS j).1,0,0⟩ else ⟨(GS j).1,[],(GS j).2,0⟩) else ⟨0,[],0,b9 j⟩
theorem Pj {d:Nat} {h:ak} (j:cF) (bF:aB.ok h j) (bM:Tidy h):∃z hk,cA (d+132) (.fn 9) [.agg [j.ah,j.ag]] h= .ret (.tuple [.agg [.int .i64 (ar j).m,z,.int .i64 (ar j).r],.int .i64 (ar j).e]) hk∧bC h hk∧bW hk .i64 3 z (ar j).c:=by
 have st:=bF.1.small
 have sr:=bF.2.small
 by_cases c0:b9 j=0
 · have F_:=og ((CW j).trans c0)
   have nt_:=F_.nt
   by_cases c1:((j.ab.length:Nat):Int)=0
   · rw[ar,decide_eq_true c0,aj,decide_eq_true c1,aj]
     obtain ⟨h1,bD,cb,ib,aI,cf⟩:=ik bM (aK.cells [j.ah,j.ag] 25 false)
     have bx:Has h h1:=cf
     obtain ⟨h2,fA,eW,xw,bS,cx⟩:=ik cb (aK.cells [(Zi 0),AV.aD,(Zi 0)] 28 false)
     have cD:Has h h2:=bx.trans cx
     have k3:=qx (d:=d+128) j (aB.mono cD bF) eW
     have q4:(!decide ((b9 j)=0))=false:=by rw[decide_eq_true c0];rfl
     have Ai:bJ (some (.slice 48)) (some j.ah)=some (Zn j.ab.length):=bF.1.len
     have q6:(decide (((j.ab.length:Nat):Int)=0))=true:=d!
     obtain ⟨h7,mF,eP,xq,gT,hG⟩:=nJ (t:=28) (n:=3) (i:=h1.nx) (L:=[(Zi 0),AV.aD,(Zi 0)]) eW bS k! rfl rfl (by simp only[AV.cells,List.all_cons,List.all_nil,Bool.and_true,Bool.and_self,fp,dV,fq,ft,db,iF,iG,iH,iI,iJ,fu])
     have er:Has h h7:=Has.cI cD hG bM o!
     have ev:=pk (d+131) hU ((AV.agg [j.ah,j.ag])::gB 84) h .ret h7 (NN bD (fun i=>(Pt i))<|NN fA (fun i=>(Pt i))<|CC<|MM (ao 25 0 (AV.agg [j.ah,j.ag]) (cx _ _ aI) k!)<|EE k3<|CN 2<|VV (eC 31 false true .i64 (b9 j) 0)<|BC q4<|MM (ao 22 0 j.ah (cx _ _ aI) k!)<|VV Ai<|VV (f_ 3 false true .i64 ((j.ab.length:Nat):Int) 0)<|BC q6<|SS mF<|CC<|ZZ) k!
     obtain ⟨hk,e,g,q⟩:=eZ (P:=fun hk=>bW hk .i64 3 .aD []) rfl (jT (a:=2) (r:=3) (t:=28) (i:=h1.nx) Tryz.func9 uy k! (.inr rfl) ev k! (m8 gT k!)) bM ⟨eP,er,by omega⟩ (bW.nil k! k!) (fun _=>bW.nil k! k!)
     exact ⟨_,hk,e,g,q⟩
   · by_cases c2:(GS j).1=CX j
     · rw[ar,decide_eq_true c0,aj,decide_eq_false c1,af,decide_eq_true c2,aj]
       unfold GS CX at c2 ⊢
       obtain ⟨h1,bD,cb,ib,aI,cf⟩:=ik bM (aK.cells [j.ah,j.ag] 25 false)
       have bx:Has h h1:=cf
       obtain ⟨h2,fA,eW,xw,bS,cx⟩:=ik cb (aK.cells [(Zi 0),AV.aD,(Zi 0)] 28 false)
       have cD:Has h h2:=bx.trans cx
       have k3:=qx (d:=d+128) j (aB.mono cD bF) eW
       have q4:(!decide ((b9 j)=0))=false:=by rw[decide_eq_true c0];rfl
       have Ai:bJ (some (.slice 48)) (some j.ah)=some (Zn j.ab.length):=bF.1.len
       have q6:(decide (((j.ab.length:Nat):Int)=0))=false:=d!
       obtain ⟨KU,h8,vN,pR,WA⟩:=rQ (d:=d) (h:=h) j h.nx h1.nx bF.1 bF.2 bF (by assumption) j.ab.length 0 0 o! (fun k_=>(((AV.agg [j.ah,j.ag])::(Pt h.nx)::(Pt h1.nx)::(Zi 0)::(Zi (b9 j))::(Zi 0)::(Zi 0)::AV.undef::AV.undef::AV.undef::AV.undef::(AV.agg [j.ah,j.ag])::(Zi (b9 j))::(Zi (b9 j))::(AV.bool (!decide ((b9 j)=0)))::AV.undef::AV.undef::(Pt h.nx)::j.ah::(Zn j.ab.length)::(AV.bool (decide (((j.ab.length:Nat):Int)=0)))::gB 64):List AV).getD k_ AV.undef) h2 eW cD (cx _ _ aI) bS
       have kh:=pR.y
       have VS:h2.nx≤h8.nx:=pR.n
       have iR:Has h h8:=cD.trans pR.a
       obtain ⟨h9,Li,rp,Sf,xO,qD⟩:=ik kh (aK.cells [(Zi 0),AV.aD,(Zi 0)] 28 false)
       have mw:Has h h9:=iR.trans qD
       have GU:Has h8 h9:=qD
       obtain ⟨tz,Jq,ku,Sg,z_,kP⟩:=nJ (t:=28) (n:=3) (i:=h8.nx) (L:=[(Zi (cd (br j j.ab.length 0 0) 100001)),AV.aD,(Zi 0)]) rp xO k! rfl rfl (by simp only[AV.cells,List.all_cons,List.all_nil,Bool.and_true,Bool.and_self,fp,dV,fq,ft,db,iF,iG,iH,iI,iJ,fu])
       have jF:Has h tz:=Has.cI mw kP bM o!
       have Tv:Has h8 tz:=Has.cI GU kP kh o!
       obtain ⟨_,aaz,M8,LQ,Aa,Sj,⟨LS,NG,x8⟩,LU⟩:=bI.n rfl (Jy (d:=d) (h:=h) (mo:=(br j j.ab.length 0 0)) (b1:=h.nx) (b2:=h1.nx) (b7:=h8.nx) bM bF F_ o! o! o! j.ae.length 0 (cd (br j j.ab.length 0 0) 100001) 0 (fun k_=>(((KU 0)::(Pt h.nx)::(Pt h1.nx)::(KU 3)::(KU 4)::(Zi (br j j.ab.length 0 0))::(KU 6)::(Pt h8.nx)::(Zi 0)::rx KU 9 25 ((Zi (br j j.ab.length 0 0))::(Zi (cd (br j j.ab.length 0 0) 100001))::(AV.agg [(Zi (cd (br j j.ab.length 0 0) 100001)),AV.aD,(Zi 0)])::rx KU 37 48 [])):List AV).getD k_ AV.undef) tz (Nat.zero_add _) ku jF o! (kP _ _ o! (qD _ _ (pR.a _ _ (cx _ _ aI)))) z_)
       have xN:Has h M8:=LS
       have K4:(decide ((ig j j.ae.length 0 (cd (br j j.ab.length 0 0) 100001) 0).1=(cd (br j j.ab.length 0 0) 100001)))=true:=d!
       obtain ⟨oT,Tw,nf,acQ,NH,CY⟩:=Y_ (t:=3) (n:=1) (i:=h8.nx) (o:=2) (v:=(Zi 0)) (N:=[(Zi (ig j j.ae.length 0 (cd (br j j.ab.length 0 0) 100001) 0).1),AV.aD,(Zi 0)]) Aa x8 k! rfl k! k! (by simp only[AV.cells,List.all_cons,List.all_nil,Bool.and_true,Bool.and_self,fp,dV,fq,ft,db,iF,iG,iH,iI,iJ,fu])
       have lD:Has h oT:=Has.cI xN CY bM o!
       obtain ⟨z14,h16,acR,Jz,aaA,XZ⟩:=aay (d:=d) j (-1) (ig j j.ae.length 0 (cd (br j j.ab.length 0 0) 100001) 0).1 (aB.mono lD bF) (by first | omega | assumption | rfl | exact F_.ac | exact F_.nt | exact F_.tk) (by first | omega | assumption | rfl | exact F_.ac | exact F_.nt | exact F_.tk) nf
       have Nu:=Jz.y
       have afG:oT.nx≤h16.nx:=Jz.n
       have Tb:Has h h16:=lD.trans Jz.a
       have aeY:=aaA.small
       have aeZ:AV.scalar z14=true:=aaA.scalar
       obtain ⟨Ua,acS,El,afH,acT,LW⟩:=abG (t:=26) (i:=h8.nx) (o:=1) (v:=z14) (N:=[(Zi (ig j j.ae.length 0 (cd (br j j.ab.length 0 0) 100001) 0).1),z14,(Zi 0)]) Nu (Jz.a _ _ NH) k! aaA.scalar k! k!
       have Em:Has h Ua:=Has.cI Tb LW bM o!
       obtain ⟨h19,acU,SQ,afI,acV,Tx⟩:=nJ (t:=28) (n:=3) (i:=h1.nx) (L:=[(Zi (ig j j.ae.length 0 (cd (br j j.ab.length 0 0) 100001) 0).1),z14,(Zi 0)]) El (LW _ _ o! (Jz.a _ _ (CY _ _ o! (LU _ _ o! (kP _ _ o! (qD _ _ (pR.a _ _ bS))))))) k! rfl rfl (by simp only[AV.cells,List.all_cons,List.all_nil,Bool.and_true,Bool.and_self,fp,dV,fq,ft,db,iF,iG,iH,iI,iJ,fu,aeZ])
       have SU:Has h h19:=Has.cI Em Tx bM o!
       have ev:=pk (d+131) hU ((AV.agg [j.ah,j.ag])::gB 84) h .ret h19 (NN bD (fun i=>(Pt i))<|NN fA (fun i=>(Pt i))<|CC<|MM (ao 25 0 (AV.agg [j.ah,j.ag]) (cx _ _ aI) k!)<|EE k3<|CN 2<|VV (eC 31 false true .i64 (b9 j) 0)<|BC q4<|MM (ao 22 0 j.ah (cx _ _ aI) k!)<|VV Ai<|VV (f_ 3 false true .i64 ((j.ab.length:Nat):Int) 0)<|BB q6<|CN 2<|LL vN<|CN 3<|NN Li (fun i=>(Pt i))<|SS Jq<|CC<|LL LQ<|CC<|MM (ao 3 0 (Zi (ig j j.ae.length 0 (cd (br j j.ab.length 0 0) 100001) 0).1) x8 k!)<|CN 2<|VV (f_ 3 false false .i64 (ig j j.ae.length 0 (cd (br j j.ab.length 0 0) 100001) 0).1 (cd (br j j.ab.length 0 0) 100001))<|BC K4<|SS Tw<|MM (ao 25 0 (AV.agg [j.ah,j.ag]) (CY _ _ o! NG) k!)<|CC<|MM (ao 3 0 (Zi (ig j j.ae.length 0 (cd (br j j.ab.length 0 0) 100001) 0).1) NH k!)<|EE acR<|CC<|SS acS<|MM (ao 28 0 (AV.agg [(Zi (ig j j.ae.length 0 (cd (br j j.ab.length 0 0) 100001) 0).1),z14,(Zi 0)]) acT k!)<|SS acU<|CC<|ZZ) k!
       obtain ⟨hk,e,g,q⟩:=eZ (P:=fun hk=>bW hk .i64 3 (cz true z14) (bif true then Tt j (ig j j.ae.length 0 (cd (br j j.ab.length 0 0) 100001) 0).1 else [])) rfl (jT (a:=2) (r:=3) (t:=28) (i:=h1.nx) Tryz.func9 uy k! (.inr rfl) ev k! (m8 acV k!)) bM ⟨SQ,SU,by omega⟩
        (XU true ((XZ.cz LW o!).cz Tx o!) o! k! k!)
        (fun w=>Nr true XZ o! (xV w) k! k!)
       exact ⟨_,hk,e,g,q⟩
     · rw[ar,decide_eq_true c0,aj,decide_eq_false c1,af,decide_eq_false c2,af]
       unfold GS CX at c2 ⊢
       obtain ⟨h1,bD,cb,ib,aI,cf⟩:=ik bM (aK.cells [j.ah,j.ag] 25 false)
       have bx:Has h h1:=cf
       obtain ⟨h2,fA,eW,xw,bS,cx⟩:=ik cb (aK.cells [(Zi 0),AV.aD,(Zi 0)] 28 false)
       have cD:Has h h2:=bx.trans cx
       have k3:=qx (d:=d+128) j (aB.mono cD bF) eW
       have q4:(!decide ((b9 j)=0))=false:=by rw[decide_eq_true c0];rfl
       have Ai:bJ (some (.slice 48)) (some j.ah)=some (Zn j.ab.length):=bF.1.len
       have q6:(decide (((j.ab.length:Nat):Int)=0))=false:=d!
       obtain ⟨KU,h8,vN,pR,WA⟩:=rQ (d:=d) (h:=h) j h.nx h1.nx bF.1 bF.2 bF (by assumption) j.ab.length 0 0 o! (fun k_=>(((AV.agg [j.ah,j.ag])::(Pt h.nx)::(Pt h1.nx)::(Zi 0)::(Zi (b9 j))::(Zi 0)::(Zi 0)::AV.undef::AV.undef::AV.undef::AV.undef::(AV.agg [j.ah,j.ag])::(Zi (b9 j))::(Zi (b9 j))::(AV.bool (!decide ((b9 j)=0)))::AV.undef::AV.undef::(Pt h.nx)::j.ah::(Zn j.ab.length)::(AV.bool (decide (((j.ab.length:Nat):Int)=0)))::gB 64):List AV).getD k_ AV.undef) h2 eW cD (cx _ _ aI) bS
       have kh:=pR.y
       have VS:h2.nx≤h8.nx:=pR.n
       have iR:Has h h8:=cD.trans pR.a
       obtain ⟨h9,Li,rp,Sf,xO,qD⟩:=ik kh (aK.cells [(Zi 0),AV.aD,(Zi 0)] 28 false)
       have mw:Has h h9:=iR.trans qD
       have GU:Has h8 h9:=qD
       obtain ⟨tz,Jq,ku,Sg,z_,kP⟩:=nJ (t:=28) (n:=3) (i:=h8.nx) (L:=[(Zi (cd (br j j.ab.length 0 0) 100001)),AV.aD,(Zi 0)]) rp xO k! rfl rfl (by simp only[AV.cells,List.all_cons,List.all_nil,Bool.and_true,Bool.and_self,fp,dV,fq,ft,db,iF,iG,iH,iI,iJ,fu])
       have jF:Has h tz:=Has.cI mw kP bM o!
       have Tv:Has h8 tz:=Has.cI GU kP kh o!
       obtain ⟨_,aaz,M8,LQ,Aa,Sj,⟨LS,NG,x8⟩,LU⟩:=bI.n rfl (Jy (d:=d) (h:=h) (mo:=(br j j.ab.length 0 0)) (b1:=h.nx) (b2:=h1.nx) (b7:=h8.nx) bM bF F_ o! o! o! j.ae.length 0 (cd (br j j.ab.length 0 0) 100001) 0 (fun k_=>(((KU 0)::(Pt h.nx)::(Pt h1.nx)::(KU 3)::(KU 4)::(Zi (br j j.ab.length 0 0))::(KU 6)::(Pt h8.nx)::(Zi 0)::rx KU 9 25 ((Zi (br j j.ab.length 0 0))::(Zi (cd (br j j.ab.length 0 0) 100001))::(AV.agg [(Zi (cd (br j j.ab.length 0 0) 100001)),AV.aD,(Zi 0)])::rx KU 37 48 [])):List AV).getD k_ AV.undef) tz (Nat.zero_add _) ku jF o! (kP _ _ o! (qD _ _ (pR.a _ _ (cx _ _ aI)))) z_)
       have xN:Has h M8:=LS
       have K4:(decide ((ig j j.ae.length 0 (cd (br j j.ab.length 0 0) 100001) 0).1=(cd (br j j.ab.length 0 0) 100001)))=false:=d!
       obtain ⟨oT,Tw,nf,acQ,NH,CY⟩:=nJ (t:=28) (n:=3) (i:=h1.nx) (L:=[(Zi (ig j j.ae.length 0 (cd (br j j.ab.length 0 0) 100001) 0).1),AV.aD,(Zi (ig j j.ae.length 0 (cd (br j j.ab.length 0 0) 100001) 0).2)]) Aa (LU _ _ o! (kP _ _ o! (qD _ _ (pR.a _ _ bS)))) k! rfl rfl (by simp only[AV.cells,List.all_cons,List.all_nil,Bool.and_true,Bool.and_self,fp,dV,fq,ft,db,iF,iG,iH,iI,iJ,fu])
       have lD:Has h oT:=Has.cI xN CY bM o!
       have ev:=pk (d+131) hU ((AV.agg [j.ah,j.ag])::gB 84) h .ret oT (NN bD (fun i=>(Pt i))<|NN fA (fun i=>(Pt i))<|CC<|MM (ao 25 0 (AV.agg [j.ah,j.ag]) (cx _ _ aI) k!)<|EE k3<|CN 2<|VV (eC 31 false true .i64 (b9 j) 0)<|BC q4<|MM (ao 22 0 j.ah (cx _ _ aI) k!)<|VV Ai<|VV (f_ 3 false true .i64 ((j.ab.length:Nat):Int) 0)<|BB q6<|CN 2<|LL vN<|CN 3<|NN Li (fun i=>(Pt i))<|SS Jq<|CC<|LL LQ<|CC<|MM (ao 3 0 (Zi (ig j j.ae.length 0 (cd (br j j.ab.length 0 0) 100001) 0).1) x8 k!)<|CN 2<|VV (f_ 3 false false .i64 (ig j j.ae.length 0 (cd (br j j.ab.length 0 0) 100001) 0).1 (cd (br j j.ab.length 0 0) 100001))<|BM K4 (ao 28 0 (AV.agg [(Zi (ig j j.ae.length 0 (cd (br j j.ab.length 0 0) 100001) 0).1),AV.aD,(Zi (ig j j.ae.length 0 (cd (br j j.ab.length 0 0) 100001) 0).2)]) x8 k!)<|SS Tw<|CC<|ZZ) k!
       obtain ⟨hk,e,g,q⟩:=eZ (P:=fun hk=>bW hk .i64 3 .aD []) rfl (jT (a:=2) (r:=3) (t:=28) (i:=h1.nx) Tryz.func9 uy k! (.inr rfl) ev k! (m8 NH k!)) bM ⟨nf,lD,by omega⟩ (bW.nil k! k!) (fun _=>bW.nil k! k!)
       exact ⟨_,hk,e,g,q⟩
 · rw[ar,decide_eq_false c0,af]
   obtain ⟨h1,bD,cb,ib,aI,cf⟩:=ik bM (aK.cells [j.ah,j.ag] 25 false)
   have bx:Has h h1:=cf
   obtain ⟨h2,fA,eW,xw,bS,cx⟩:=ik cb (aK.cells [(Zi 0),AV.aD,(Zi 0)] 28 false)
   have cD:Has h h2:=bx.trans cx
   have k3:=qx (d:=d+128) j (aB.mono cD bF) eW
   have q4:(!decide ((b9 j)=0))=true:=by rw[decide_eq_false c0];rfl
   obtain ⟨h5,aat,js,ab9,aau,Th⟩:=nJ (t:=28) (n:=3) (i:=h1.nx) (L:=[(Zi 0),AV.aD,(Zi 0)]) eW bS k! rfl rfl (by simp only[AV.cells,List.all_cons,List.all_nil,Bool.and_true,Bool.and_self,fp,dV,fq,ft,db,iF,iG,iH,iI,iJ,fu])
   have eV:Has h h5:=Has.cI cD Th bM o!
   have ev:=pk (d+131) hU ((AV.agg [j.ah,j.ag])::gB 84) h .ret h5 (NN bD (fun i=>(Pt i))<|NN fA (fun i=>(Pt i))<|CC<|MM (ao 25 0 (AV.agg [j.ah,j.ag]) (cx _ _ aI) k!)<|EE k3<|CN 2<|VV (eC 31 false true .i64 (b9 j) 0)<|BB q4<|CN 2<|SS aat<|CC<|ZZ) k!
   obtain ⟨hk,e,g,q⟩:=eZ (P:=fun hk=>bW hk .i64 3 .aD []) rfl (jT (a:=2) (r:=3) (t:=28) (i:=h1.nx) Tryz.func9 uy k! (.inr rfl) ev k! (m8 aau k!)) bM ⟨js,eV,by omega⟩ (bW.nil k! k!) (fun _=>bW.nil k! k!)
   exact ⟨_,hk,e,g,q⟩
def qe:Code:=(Tryz.f33.body).getD .skip
theorem mM:Tryz.f33.body=some qe:=by kernel_rfl
def GV:Code:=(bz qe).getD 0 .skip
def GW:Code:=(bz qe).getD 1 .skip
def hX (j:cF) (f:jg) (i0:Nat):Nat→Nat→Bool→Bool
 | 0,_,fX=>fX
 | n8+1,i1,fX=>(bif (!fX) then hX j f i0 n8 (i1+1) (decide (((j.ab.g (f.chain.g i0).toNat).aq.g i1)=(f.chain.g (i0 - 1)))) else fX)
theorem vm {d:Nat} {h:ak} (aN:Int) (i0:Nat) (f:jg) (j:cF) (dL:Nat) (lG:Nat) (ct:aH h j.ah j.ab) (fO:aH h j.ag j.ae) (vM:bW h .i64 3 f.aS f.chain) (qv:aB.ok h j) (OJ:aB.ok h f) (nR:i0<f.chain.length) (sv:0≤f.chain.g i0) (tx:f.chain.g i0<(j.ab.length:Int)):∀(k_ i_:Nat) (fX:Bool) (_:i_+k_=((j.ab.g (f.chain.g i0).toNat).aq.length)) (_:(i0=0→fX=true)) (x:Nat→AV) (hh:ak) (az:Tidy hh) (aw:Has h hh) (ca:hh.get dL=some (aK.cells [j.ah,j.ag] 25 false)) (ju:hh.get lG=some (aK.cells [(Zi f.ay),f.aS,(Zi f.ai)] 28 false)),bu (cA (d+2)) GW ⟨((x 0)::(x 1)::(Pt dL)::(Pt lG)::(x 4)::(Zi aN)::(Zn i0)::(Zi (f.chain.g i0))::(AV.bool fX)::(Zn i_)::rx x 10 106 []),hh,[],.no⟩ (.exit 2) hh (fun r y=>((y 0)::(y 1)::(Pt dL)::(Pt lG)::(y 4)::(Zi aN)::(Zn i0)::(Zi (f.chain.g i0))::(AV.bool r)::rx y 9 107 [])) (fun r=>(i0=0→r=true)) (hX j f i0 k_ i_ fX)
 | 0,i1,fX,fK,dt,x,hh,az,aw,ca,ju=>by
   have kK:=ct.small
   have jr:=fO.small
   have LC:=vM.small
   have so:=az _ _ ca
   have OL:=az _ _ ju
   obtain ⟨p2,q3,qC⟩:=(ct.has aw).elem (i:=(f.chain.g i0).toNat) o!
   have JS:b_ env (some (.slice 48)) (some j.ah) (some (Zi (f.chain.g i0)))=some (AV.ptr p2 q3):=by rw[show ((f.chain.g i0):Int)=(((f.chain.g i0).toNat:Nat):Int) by omega];exact qC
   have JT:bm env hh 26 (AV.ptr p2 (q3+2))=some ((j.ab.g (f.chain.g i0).toNat).aG):=(ct.has aw).part (t:=26) (j:=2) o! qC k! rfl
   have Ai:bJ (some (.slice 3)) (some (j.ab.g (f.chain.g i0).toNat).aG)=some (Zn (j.ab.g (f.chain.g i0).toNat).aq.length):=(((ct.has aw).ok (i:=(f.chain.g i0).toNat) o!).2.1).len
   have q6:(decide (((i1:Nat):Int)<(((j.ab.g (f.chain.g i0).toNat).aq.length:Nat):Int)))=false:=d!
   exact bu.out fX rfl (pk (d+2) _ _ hh _ hh (CN 2<|MM (ao 22 0 j.ah ca k!)<|CC<|VV JS<|CC<|MM JT<|VV Ai<|VV (aQ 3 false false .i64 ((i1:Nat):Int) (((j.ab.g (f.chain.g i0).toNat).aq.length:Nat):Int))<|CC<|BB q6<|BV q6 (vK false q6)<|FF<|ZZ) k!) (bC.refl az) (show (i0=0→fX=true) from (by first | exact dt | exact fun z=>decide_eq_true o! | (intro z;omega))) k!
 | n8+1,i1,fX,fK,dt,x,hh,az,aw,ca,ju=>by
   have kK:=ct.small
   have jr:=fO.small
   have LC:=vM.small
   have so:=az _ _ ca
   have OL:=az _ _ ju
   have nl_:=((ct.ok (i:=(f.chain.g i0).toNat) o!).2.1).small
   obtain ⟨p2,q3,qC⟩:=(ct.has aw).elem (i:=(f.chain.g i0).toNat) o!
   have JS:b_ env (some (.slice 48)) (some j.ah) (some (Zi (f.chain.g i0)))=some (AV.ptr p2 q3):=by rw[show ((f.chain.g i0):Int)=(((f.chain.g i0).toNat:Nat):Int) by omega];exact qC
   have JT:bm env hh 26 (AV.ptr p2 (q3+2))=some ((j.ab.g (f.chain.g i0).toNat).aG):=(ct.has aw).part (t:=26) (j:=2) o! qC k! rfl
   have Ai:bJ (some (.slice 3)) (some (j.ab.g (f.chain.g i0).toNat).aG)=some (Zn (j.ab.g (f.chain.g i0).toNat).aq.length):=(((ct.has aw).ok (i:=(f.chain.g i0).toNat) o!).2.1).len
   have q6:(decide (((i1:Nat):Int)<(((j.ab.g (f.chain.g i0).toNat).aq.length:Nat):Int)))=true:=d!
   rcases Bool.eq_false_or_eq_true (!fX) with f1 | f1
   · have aaB:fX=false:=d!
     have adq:0<i0:=Wi dt aaB
     obtain ⟨p9,JM,xn⟩:=(ct.has aw).elem (i:=(f.chain.g i0).toNat) o!
     have OF:b_ env (some (.slice 48)) (some j.ah) (some (Zi (f.chain.g i0)))=some (AV.ptr p9 JM):=by rw[show ((f.chain.g i0):Int)=(((f.chain.g i0).toNat:Nat):Int) by omega];exact xn
     have uH:bm env hh 26 (AV.ptr p9 (JM+2))=some ((j.ab.g (f.chain.g i0).toNat).aG):=(ct.has aw).part (t:=26) (j:=2) o! xn k! rfl
     obtain ⟨p13,q14,Js,_⟩:=(((ct.has aw).ok (i:=(f.chain.g i0).toNat) o!).2.1).elem (i:=i1) o!
     have aaw:b_ env (some (.slice 3)) (some (j.ab.g (f.chain.g i0).toNat).aG) (some (Zn i1))=some (AV.ptr p13 q14):=Js
     have Wx:bm env hh 3 (AV.ptr p13 q14)=some (Zi ((j.ab.g (f.chain.g i0).toNat).aq.g i1)):=(((ct.has aw).ok (i:=(f.chain.g i0).toNat) o!).2.1).load o! Js
     have u16:=RB 3 false true i0 1 o! o!
     obtain ⟨p18,q19,X0,_⟩:=(vM.has aw).elem (i:=(i0 - 1)) o!
     have ae0:b_ env (some (.slice 3)) (some f.aS) (some (Zn (i0 - 1)))=some (AV.ptr p18 q19):=X0
     have acW:bm env hh 3 (AV.ptr p18 q19)=some (Zi (f.chain.g (i0 - 1))):=(vM.has aw).load o! X0
     have c21:AV.same 20 j.ah j.ah=true:=(ct.has aw).same 19
     have c22:AV.same 20 (j.ab.g (f.chain.g i0).toNat).aG (j.ab.g (f.chain.g i0).toNat).aG=true:=(((ct.has aw).ok (i:=(f.chain.g i0).toNat) o!).2.1).same 19
     have c23:AV.same 20 f.aS f.aS=true:=(vM.has aw).same 19
     have u24:=ew 3 false true i1 1 o!
     exact bu.round (by simp only[hX,f1,aj,af]) (pk (d+2) _ _ hh _ hh (CN 2<|MM (ao 22 0 j.ah ca k!)<|CC<|VV JS<|CC<|MM JT<|VV Ai<|VV (aQ 3 false false .i64 ((i1:Nat):Int) (((j.ab.g (f.chain.g i0).toNat).aq.length:Nat):Int))<|CC<|BC q6<|BC q6<|VV (nK (!fX) false q6)<|BC f1<|MM (ao 22 0 j.ah ca k!)<|CC<|VV OF<|CC<|MM uH<|CC<|VV aaw<|MM Wx<|CC<|MM (ao 26 1 f.aS ju k!)<|CC<|VV u16<|VV ae0<|MM acW<|VV (f_ 3 false false .i64 ((j.ab.g (f.chain.g i0).toNat).aq.g i1) (f.chain.g (i0 - 1)))<|CC<|HH (ao 22 0 j.ah ca k!)<|HH c21<|HH uH<|HH c22<|HH Wx<|HH (show AV.same 20 (Zi ((j.ab.g (f.chain.g i0).toNat).aq.g i1)) (Zi ((j.ab.g (f.chain.g i0).toNat).aq.g i1))=true from aJ 19 _ _)<|HH (ao 26 1 f.aS ju k!)<|HH c23<|HH acW<|HH (show AV.same 20 (Zi (f.chain.g (i0 - 1))) (Zi (f.chain.g (i0 - 1)))=true from aJ 19 _ _)<|CC<|VV u24<|CC<|ZZ) k!) (bC.refl az) _ k! (fun x=>vm aN i0 f j dL lG ct fO vM qv OJ nR sv tx n8 (i1+1) (decide (((j.ab.g (f.chain.g i0).toNat).aq.g i1)=(f.chain.g (i0 - 1)))) o! (show (i0=0→(decide (((j.ab.g (f.chain.g i0).toNat).aq.g i1)=(f.chain.g (i0 - 1))))=true) from (by first | exact dt | exact fun z=>decide_eq_true o! | (intro z;omega))) x hh az aw ca ju)
   · exact bu.out fX (by simp only[hX,f1,aj,af]) (pk (d+2) _ _ hh _ hh (CN 2<|MM (ao 22 0 j.ah ca k!)<|CC<|VV JS<|CC<|MM JT<|VV Ai<|VV (aQ 3 false false .i64 ((i1:Nat):Int) (((j.ab.g (f.chain.g i0).toNat).aq.length:Nat):Int))<|CC<|BC q6<|BC q6<|VV (nK (!fX) false q6)<|BB f1<|ZZ) k!) (bC.refl az) (show (i0=0→fX=true) from (by first | exact dt | exact fun z=>decide_eq_true o! | (intro z;omega))) k!
def fG (j:cF) (f:jg):Nat→Nat→Int→(Int)⊕(Bool)
 | 0,_,aN=>Sum.inl aN
 | c7+1,i0,aN=>(bif (decide ((f.chain.g i0)<0)) then Sum.inr false else (bif (decide (((j.ab.length:Nat):Int)≤(f.chain.g i0))) then Sum.inr false else (bif (!(hX j f i0 (j.ab.g (f.chain.g i0).toNat).aq.length 0 (decide (((i0:Nat):Int)=0)))) then Sum.inr false else fG j f c7 (i0+1) (IntKind.i64.wrap (aN+((j.ab.g (f.chain.g i0).toNat).aL))))))
theorem qf {d:Nat} {h:ak} (f:jg) (j:cF) (bh:Nat) (dg:Nat) (aO:aH h j.ah j.ab) (bL:aH h j.ag j.ae) (jY:bW h .i64 3 f.aS f.chain) (gS:aB.ok h j) (OM:aB.ok h f) (bM:Tidy h) (pT:h.nx≤bh) (yX:h.nx≤dg) (oV:dg≠bh):∀(k_ i_:Nat) (aN:Int) (_:i_+k_=f.chain.length) (x:Nat→AV) (hh:ak) (az:Tidy hh) (aw:Has h hh) (gv:h.nx≤hh.nx) (aM:hh.get bh=some (aK.cells [j.ah,j.ag] 25 false)) (cS:hh.get dg=some (aK.cells [(Zi f.ay),f.aS,(Zi f.ai)] 28 false)),bI (σ:=Int) (ρ:=Bool) (cA (d+2)) GV ⟨((x 0)::(x 1)::(Pt bh)::(Pt dg)::(x 4)::(Zi aN)::(Zn i_)::rx x 7 109 []),hh,[],.no⟩ (.exit 0) hh (fun r z y=>((y 0)::(y 1)::(Pt bh)::(Pt dg)::(y 4)::(Zi r)::rx y 6 110 [])) (fun r z y=>((y 0)::(y 1)::(Pt bh)::(Pt dg)::(AV.bool r)::rx y 5 111 [])) (fun r z hk=>Has h hk∧hk.get bh=some (aK.cells [j.ah,j.ag] 25 false)∧hk.get dg=some (aK.cells [(Zi f.ay),f.aS,(Zi f.ai)] 28 false)) (fun r z hk=>Has h hk) (fG j f k_ i_ aN)
 | 0,i0,aN,fK,x,hh,az,aw,gv,aM,cS=>by
   have bY:=aO.small
   have eD:=bL.small
   have vO:=jY.small
   have jh:=az _ _ aM
   have Az:=az _ _ cS
   have dx:bJ (some (.slice 3)) (some f.aS)=some (Zn f.chain.length):=jY.len
   have q2:(decide (((i0:Nat):Int)<((f.chain.length:Nat):Int)))=false:=d!
   exact bI.out aN AV.undef rfl (pk (d+2) _ _ hh _ hh (CN 2<|MM (ao 26 1 f.aS cS k!)<|VV dx<|VV (aQ 3 false false .i64 ((i0:Nat):Int) ((f.chain.length:Nat):Int))<|BB q2<|ZZ) k!) az o! ⟨aw,aM,cS⟩ k!
 | c7+1,i0,aN,fK,x,hh,az,aw,gv,aM,cS=>by
   have bY:=aO.small
   have eD:=bL.small
   have vO:=jY.small
   have jh:=az _ _ aM
   have Az:=az _ _ cS
   have dx:bJ (some (.slice 3)) (some f.aS)=some (Zn f.chain.length):=jY.len
   have q2:(decide (((i0:Nat):Int)<((f.chain.length:Nat):Int)))=true:=d!
   obtain ⟨p4,q5,jW,_⟩:=jY.elem (i:=i0) o!
   have kV:b_ env (some (.slice 3)) (some f.aS) (some (Zn i0))=some (AV.ptr p4 q5):=jW
   have lX:bm env hh 3 (AV.ptr p4 q5)=some (Zi (f.chain.g i0)):=(jY.has aw).load o! jW
   rcases Bool.eq_false_or_eq_true (decide ((f.chain.g i0)<0)) with f1 | f1
   · have ea:=of_decide_eq_true f1
     exact bI.ret false AV.undef (by simp only[fG,f1,aj,af]) (pk (d+2) _ _ hh _ hh (CN 2<|MM (ao 26 1 f.aS cS k!)<|VV dx<|VV (aQ 3 false false .i64 ((i0:Nat):Int) ((f.chain.length:Nat):Int))<|BC q2<|MM (ao 26 1 f.aS cS k!)<|CC<|VV kV<|MM lX<|CN 2<|VV (aQ 3 false true .i64 (f.chain.g i0) 0)<|CC<|BB f1<|BB f1<|BB f1<|BB f1<|BV f1 (qI true f1)<|TT<|CC<|ZZ) k!) az o! aw k!
   · have ea:=of_decide_eq_false f1
     have IG:bJ (some (.slice 48)) (some j.ah)=some (Zn j.ab.length):=aO.len
     rcases Bool.eq_false_or_eq_true (decide (((j.ab.length:Nat):Int)≤(f.chain.g i0))) with f2 | f2
     · have jX:=of_decide_eq_true f2
       exact bI.ret false AV.undef (by simp only[fG,f1,f2,aj,af]) (pk (d+2) _ _ hh _ hh (CN 2<|MM (ao 26 1 f.aS cS k!)<|VV dx<|VV (aQ 3 false false .i64 ((i0:Nat):Int) ((f.chain.length:Nat):Int))<|BC q2<|MM (ao 26 1 f.aS cS k!)<|CC<|VV kV<|MM lX<|CN 2<|VV (aQ 3 false true .i64 (f.chain.g i0) 0)<|CC<|BC f1<|BC f1<|BM f1 (ao 22 0 j.ah aM k!)<|BV f1 IG<|BV f1 (jf 3 false false .i64 (f.chain.g i0) ((j.ab.length:Nat):Int))<|VV (bf (a:=some (AV.bool true)) (b:=some (AV.bool (decide (((j.ab.length:Nat):Int)≤(f.chain.g i0))))) f1)<|BC f2<|ZZ) k!) az o! aw k!
     · have jX:=of_decide_eq_false f2
       obtain ⟨af4,M8,NI,EF,acX⟩:=vm (d:=d) (h:=h) aN i0 f j bh dg aO bL jY gS OM o! o! o! (j.ab.g (f.chain.g i0).toNat).aq.length 0 (decide (((i0:Nat):Int)=0)) o! (show (i0=0→(decide (((i0:Nat):Int)=0))=true) from (by first | exact dt | exact fun z=>decide_eq_true o! | (intro z;omega))) (fun k_=>(((x 0)::(x 1)::(Pt bh)::(Pt dg)::(x 4)::(Zi aN)::(Zn i0)::(Zi (f.chain.g i0))::(AV.bool (decide (((i0:Nat):Int)=0)))::(Zi 0)::rx x 10 38 ((Zn i0)::(AV.ptr dg 1)::f.aS::(Zn f.chain.length)::(AV.bool (decide (((i0:Nat):Int)<((f.chain.length:Nat):Int))))::(x 53)::(x 54)::(AV.ptr dg 1)::f.aS::(Zn i0)::(AV.ptr p4 q5)::(Zi (f.chain.g i0))::(Zi (f.chain.g i0))::(AV.bool (decide ((f.chain.g i0)<0)))::(AV.bool (decide ((f.chain.g i0)<0)))::(Zi (f.chain.g i0))::(Pt bh)::j.ah::(Zn j.ab.length)::(AV.bool (decide (((j.ab.length:Nat):Int)≤(f.chain.g i0))))::(AV.bool (decide (((j.ab.length:Nat):Int)≤(f.chain.g i0))))::(Zn i0)::(AV.bool (decide (((i0:Nat):Int)=0)))::rx x 71 45 [])):List AV).getD k_ AV.undef) hh az aw aM cS
       have Aa:=EF.y
       have Sj:hh.nx≤M8.nx:=EF.n
       have xN:Has h M8:=aw.trans EF.a
       rcases Bool.eq_false_or_eq_true (!(hX j f i0 (j.ab.g (f.chain.g i0).toNat).aq.length 0 (decide (((i0:Nat):Int)=0)))) with f3 | f3
       · exact bI.ret false AV.undef (by simp only[fG,f1,f2,f3,aj,af]) (pk (d+2) _ _ hh _ M8 (CN 2<|MM (ao 26 1 f.aS cS k!)<|VV dx<|VV (aQ 3 false false .i64 ((i0:Nat):Int) ((f.chain.length:Nat):Int))<|BC q2<|MM (ao 26 1 f.aS cS k!)<|CC<|VV kV<|MM lX<|CN 2<|VV (aQ 3 false true .i64 (f.chain.g i0) 0)<|CC<|BC f1<|BC f1<|BM f1 (ao 22 0 j.ah aM k!)<|BV f1 IG<|BV f1 (jf 3 false false .i64 (f.chain.g i0) ((j.ab.length:Nat):Int))<|VV (bf (a:=some (AV.bool true)) (b:=some (AV.bool (decide (((j.ab.length:Nat):Int)≤(f.chain.g i0))))) f1)<|BC f2<|VV (f_ 3 false true .i64 ((i0:Nat):Int) 0)<|CN 2<|LL NI<|CN 2<|BC f3<|ZZ) k!) Aa o! xN k!
       · obtain ⟨p14,q15,X1⟩:=aO.elem (i:=(f.chain.g i0).toNat) o!
         have ae1:b_ env (some (.slice 48)) (some j.ah) (some (Zi (f.chain.g i0)))=some (AV.ptr p14 q15):=by rw[show ((f.chain.g i0):Int)=(((f.chain.g i0).toNat:Nat):Int) by omega];exact X1
         have ae2:bm env M8 3 (AV.ptr p14 (q15+1))=some (Zi (j.ab.g (f.chain.g i0).toNat).aL):=(aO.has xN).part (t:=3) (j:=1) o! X1 k! rfl
         have u17:=ew 3 false true i0 1 o!
         exact bI.round (by simp only[fG,f1,f2,f3,aj,af]) (pk (d+2) _ _ hh _ M8 (CN 2<|MM (ao 26 1 f.aS cS k!)<|VV dx<|VV (aQ 3 false false .i64 ((i0:Nat):Int) ((f.chain.length:Nat):Int))<|BC q2<|MM (ao 26 1 f.aS cS k!)<|CC<|VV kV<|MM lX<|CN 2<|VV (aQ 3 false true .i64 (f.chain.g i0) 0)<|CC<|BC f1<|BC f1<|BM f1 (ao 22 0 j.ah aM k!)<|BV f1 IG<|BV f1 (jf 3 false false .i64 (f.chain.g i0) ((j.ab.length:Nat):Int))<|VV (bf (a:=some (AV.bool true)) (b:=some (AV.bool (decide (((j.ab.length:Nat):Int)≤(f.chain.g i0))))) f1)<|BC f2<|VV (f_ 3 false true .i64 ((i0:Nat):Int) 0)<|CN 2<|LL NI<|CN 2<|BB f3<|CN 2<|MM (ao 22 0 j.ah (EF.a _ _ aM) k!)<|CC<|VV ae1<|CC<|MM ae2<|CN 3<|VV u17<|CC<|ZZ) k!) o! _ k! (fun x=>qf f j bh dg aO bL jY gS OM bM pT yX oV c7 (i0+1) (IntKind.i64.wrap (aN+((j.ab.g (f.chain.g i0).toNat).aL))) o! x M8 Aa xN o! (EF.a _ _ aM) (EF.a _ _ cS))
def fH (j:cF) (f:jg):Bool:=(bif (decide (((f.chain.length:Nat):Int)=0)) then (bif (decide (f.ay≤0)) then true else (bif (decide (0≤f.ai)) then (bif (decide (f.ai<((j.ae.length:Nat):Int))) then (decide ((nk (j.ae.g f.ai.toNat) (cd (IntKind.i64.wrap (f.ay - 1)) 1099511627776))<(cO j f.ai))) else false) else false)) else (match (fG j f f.chain.length 0 0) with | Sum.inl rv5=>(decide (f.ay≤rv5)) | Sum.inr Zz=>Zz))
theorem LX {d:Nat} {h:ak} (j:cF) (f:jg) (bF:aB.ok h j) (NJ:aB.ok h f) (bM:Tidy h):cA (d+3) (.fn 33) [(AV.agg [j.ah,j.ag]),(AV.agg [(Zi f.ay),f.aS,(Zi f.ai)])] h= .ret (AV.bool (fH j f)) h:=by
 have eS:=bF.1.small
 have eT:=bF.2.small
 obtain ⟨h1,bD,cb,ib,aI,cf⟩:=ik bM (aK.cells [j.ah,j.ag] 25 false)
 have bx:Has h h1:=cf
 obtain ⟨h2,fA,eW,xw,bS,cx⟩:=ik cb (aK.cells [(Zi f.ay),f.aS,(Zi f.ai)] 28 false)
 have cD:Has h h2:=bx.trans cx
 have yh:bJ (some (.slice 3)) (some f.aS)=some (Zn f.chain.length):=NJ.len
 rcases Bool.eq_false_or_eq_true (decide (((f.chain.length:Nat):Int)=0)) with f0 | f0
 · have fw:=of_decide_eq_true f0
   rcases Bool.eq_false_or_eq_true (decide (f.ay≤0)) with f1 | f1
   · have ea:=of_decide_eq_true f1
     have e:fH j f=true:=by simp only[fH,f0,f1,aj,af]
     rw[e]
     exact ax rfl (aR Tryz.func33 mM rfl (.inr rfl) (pk (d+2) _ _ h _ h2 (NN bD (fun i=>(Pt i))<|NN fA (fun i=>(Pt i))<|CN 2<|MM (ao 26 1 f.aS bS k!)<|VV yh<|VV (f_ 3 false true .i64 ((f.chain.length:Nat):Int) 0)<|BC f0<|MM (ao 3 0 (Zi f.ay) bS k!)<|VV (kI 3 false true .i64 f.ay 0)<|CC<|BB f1<|BB f1<|BB f1<|BB f1<|BB f1<|BB f1<|BV f1 (qI true f1)<|CC<|HH (ao 3 0 (Zi f.ay) bS k!)<|HH (show AV.same 20 (Zi f.ay) (Zi f.ay)=true from aJ 19 _ _)<|ZZ) k!) k!) cD rfl
   · have ea:=of_decide_eq_false f1
     rcases Bool.eq_false_or_eq_true (decide (0≤f.ai)) with f2 | f2
     · have jX:=of_decide_eq_true f2
       have T_:bJ (some (.slice 45)) (some j.ag)=some (Zn j.ae.length):=bF.2.len
       rcases Bool.eq_false_or_eq_true (decide (f.ai<((j.ae.length:Nat):Int))) with f3 | f3
       · have mu:=of_decide_eq_true f3
         obtain ⟨Xy,Xz,IH⟩:=bF.2.elem (i:=f.ai.toNat) o!
         have ix9:b_ env (some (.slice 45)) (some j.ag) (some (Zi f.ai))=some (AV.ptr Xy Xz):=by rw[show (f.ai:Int)=((f.ai.toNat:Nat):Int) by omega];exact IH
         have F1:bm env h2 45 (AV.ptr Xy Xz)=some (AV.agg [(AV.str (j.ae.g f.ai.toNat).name),(Zi (j.ae.g f.ai.toNat).aC),(j.ae.g f.ai.toNat).cE]):=(bF.2.has cD).load o! IH
         have Xu:=xA (d:=d) j f.ai (aB.mono cD bF) eW
         have k14:=M1 (d:=d+1) (j.ae.g f.ai.toNat) (cd (IntKind.i64.wrap (f.ay - 1)) 1099511627776) (aB.mono cD (bF.2.ok (i:=f.ai.toNat) o!)) eW
         have VX:AV.same 20 j.ag j.ag=true:=bF.2.same 19
         have PI:AV.same 20 (AV.agg [j.ah,j.ag]) (AV.agg [j.ah,j.ag])=true:=iC 18 (th bF.1.same (th bF.2.same OA))
         have c17:AV.same 20 (AV.agg [(AV.str (j.ae.g f.ai.toNat).name),(Zi (j.ae.g f.ai.toNat).aC),(j.ae.g f.ai.toNat).cE]) (AV.agg [(AV.str (j.ae.g f.ai.toNat).name),(Zi (j.ae.g f.ai.toNat).aC),(j.ae.g f.ai.toNat).cE])=true:=iC 18 (th (fun n=>fT n _) (th (fun n=>aJ n _ _) (th (bF.2.ok (i:=f.ai.toNat) o!).2.same OA)))
         have e:fH j f=(decide ((nk (j.ae.g f.ai.toNat) (cd (IntKind.i64.wrap (f.ay - 1)) 1099511627776))<(cO j f.ai))):=by simp only[fH,f0,f1,f2,f3,aj,af]
         rw[e]
         exact ax rfl (aR Tryz.func33 mM rfl (.inr rfl) (pk (d+2) _ _ h _ h2 (NN bD (fun i=>(Pt i))<|NN fA (fun i=>(Pt i))<|CN 2<|MM (ao 26 1 f.aS bS k!)<|VV yh<|VV (f_ 3 false true .i64 ((f.chain.length:Nat):Int) 0)<|BC f0<|MM (ao 3 0 (Zi f.ay) bS k!)<|VV (kI 3 false true .i64 f.ay 0)<|CC<|BC f1<|BM f1 (ao 3 2 (Zi f.ai) bS k!)<|BV f1 (jf 3 false true .i64 f.ai 0)<|BC f1<|BC f2<|BM f2 (ao 3 2 (Zi f.ai) bS k!)<|BC f2<|BM f2 (ao 23 1 j.ag (cx _ _ aI) k!)<|BV f2 T_<|BV f2 (aQ 3 false false .i64 f.ai ((j.ae.length:Nat):Int))<|BV f1 (nK (decide (f.ai<((j.ae.length:Nat):Int))) false f2)<|BC f1<|BM f3 (ao 25 0 (AV.agg [j.ah,j.ag]) (cx _ _ aI) k!)<|BC f3<|BM f3 (ao 3 2 (Zi f.ai) bS k!)<|BC f3<|BM f3 (ao 23 1 j.ag (cx _ _ aI) k!)<|BC f3<|BM f3 (ao 3 2 (Zi f.ai) bS k!)<|BV f3 ix9<|BM f3 F1<|BC f3<|BM f3 (ao 3 0 (Zi f.ay) bS k!)<|BC f3<|BC f3<|BB f3<|EE Xu<|BB f3<|EE k14<|BV f3 (bK 3 false false .i64 (cO j f.ai) (nk (j.ae.g f.ai.toNat) (cd (IntKind.i64.wrap (f.ay - 1)) 1099511627776)))<|BV f1 (nK (decide ((nk (j.ae.g f.ai.toNat) (cd (IntKind.i64.wrap (f.ay - 1)) 1099511627776))<(cO j f.ai))) false f3)<|VV (bf (a:=some (AV.bool true)) (b:=some (AV.bool (decide ((nk (j.ae.g f.ai.toNat) (cd (IntKind.i64.wrap (f.ay - 1)) 1099511627776))<(cO j f.ai))))) f1)<|CC<|HH (ao 3 0 (Zi f.ay) bS k!)<|HH (show AV.same 20 (Zi f.ay) (Zi f.ay)=true from aJ 19 _ _)<|HH (ao 3 2 (Zi f.ai) bS k!)<|HH (show AV.same 20 (Zi f.ai) (Zi f.ai)=true from aJ 19 _ _)<|HH (ao 3 2 (Zi f.ai) bS k!)<|HH (show AV.same 20 (Zi f.ai) (Zi f.ai)=true from aJ 19 _ _)<|HH (ao 23 1 j.ag (cx _ _ aI) k!)<|HH VX<|HH (ao 25 0 (AV.agg [j.ah,j.ag]) (cx _ _ aI) k!)<|HH PI<|HH (ao 3 2 (Zi f.ai) bS k!)<|HH (show AV.same 20 (Zi f.ai) (Zi f.ai)=true from aJ 19 _ _)<|HH (ao 23 1 j.ag (cx _ _ aI) k!)<|HH VX<|HH (ao 23 1 j.ag (cx _ _ aI) k!)<|HH VX<|HH (ao 3 2 (Zi f.ai) bS k!)<|HH (show AV.same 20 (Zi f.ai) (Zi f.ai)=true from aJ 19 _ _)<|HH (ao 3 2 (Zi f.ai) bS k!)<|HH (show AV.same 20 (Zi f.ai) (Zi f.ai)=true from aJ 19 _ _)<|HH F1<|HH c17<|HH F1<|HH c17<|HH (ao 3 0 (Zi f.ay) bS k!)<|HH (show AV.same 20 (Zi f.ay) (Zi f.ay)=true from aJ 19 _ _)<|HH (ao 3 0 (Zi f.ay) bS k!)<|HH (show AV.same 20 (Zi f.ay) (Zi f.ay)=true from aJ 19 _ _)<|ZZ) k!) k!) cD rfl
       · have mu:=of_decide_eq_false f3
         have c9:AV.same 20 j.ag j.ag=true:=bF.2.same 19
         have e:fH j f=false:=by simp only[fH,f0,f1,f2,f3,aj,af]
         rw[e]
         exact ax rfl (aR Tryz.func33 mM rfl (.inr rfl) (pk (d+2) _ _ h _ h2 (NN bD (fun i=>(Pt i))<|NN fA (fun i=>(Pt i))<|CN 2<|MM (ao 26 1 f.aS bS k!)<|VV yh<|VV (f_ 3 false true .i64 ((f.chain.length:Nat):Int) 0)<|BC f0<|MM (ao 3 0 (Zi f.ay) bS k!)<|VV (kI 3 false true .i64 f.ay 0)<|CC<|BC f1<|BM f1 (ao 3 2 (Zi f.ai) bS k!)<|BV f1 (jf 3 false true .i64 f.ai 0)<|BC f1<|BC f2<|BM f2 (ao 3 2 (Zi f.ai) bS k!)<|BC f2<|BM f2 (ao 23 1 j.ag (cx _ _ aI) k!)<|BV f2 T_<|BV f2 (aQ 3 false false .i64 f.ai ((j.ae.length:Nat):Int))<|BV f1 (nK (decide (f.ai<((j.ae.length:Nat):Int))) false f2)<|BC f1<|BB f3<|BB f3<|BB f3<|BB f3<|BB f3<|BB f3<|BB f3<|BB f3<|BB f3<|BB f3<|BB f3<|BB f3<|BB f3<|BB f3<|BB f3<|BB f3<|BV f1 (vK false f3)<|VV (pcf true false f1)<|CC<|HH (ao 3 0 (Zi f.ay) bS k!)<|HH (show AV.same 20 (Zi f.ay) (Zi f.ay)=true from aJ 19 _ _)<|HH (ao 3 2 (Zi f.ai) bS k!)<|HH (show AV.same 20 (Zi f.ai) (Zi f.ai)=true from aJ 19 _ _)<|HH (ao 3 2 (Zi f.ai) bS k!)<|HH (show AV.same 20 (Zi f.ai) (Zi f.ai)=true from aJ 19 _ _)<|HH (ao 23 1 j.ag (cx _ _ aI) k!)<|HH c9<|ZZ) k!) k!) cD rfl
     · have jX:=of_decide_eq_false f2
       have e:fH j f=false:=by simp only[fH,f0,f1,f2,aj,af]
       rw[e]
       exact ax rfl (aR Tryz.func33 mM rfl (.inr rfl) (pk (d+2) _ _ h _ h2 (NN bD (fun i=>(Pt i))<|NN fA (fun i=>(Pt i))<|CN 2<|MM (ao 26 1 f.aS bS k!)<|VV yh<|VV (f_ 3 false true .i64 ((f.chain.length:Nat):Int) 0)<|BC f0<|MM (ao 3 0 (Zi f.ay) bS k!)<|VV (kI 3 false true .i64 f.ay 0)<|CC<|BC f1<|BM f1 (ao 3 2 (Zi f.ai) bS k!)<|BV f1 (jf 3 false true .i64 f.ai 0)<|BC f1<|BB f2<|BB f2<|BB f2<|BB f2<|BB f2<|BB f2<|BV f1 (vK false f2)<|BC f1<|FF<|FF<|FF<|FF<|FF<|FF<|FF<|FF<|FF<|FF<|FF<|FF<|FF<|FF<|FF<|FF<|BC f1<|VV (pcf true false f1)<|CC<|HH (ao 3 0 (Zi f.ay) bS k!)<|HH (show AV.same 20 (Zi f.ay) (Zi f.ay)=true from aJ 19 _ _)<|HH (ao 3 2 (Zi f.ai) bS k!)<|HH (show AV.same 20 (Zi f.ai) (Zi f.ai)=true from aJ 19 _ _)<|ZZ) k!) k!) cD rfl
 · have fw:=of_decide_eq_false f0
   cases pQ:fG j f f.chain.length 0 0 with
   | inl rv5=>
     obtain ⟨VW,OO,h6,nL,mD,R2,Cb,ZU,aaC⟩:=bI.n pQ (qf (d:=d) (h:=h) f j h.nx h1.nx bF.1 bF.2 NJ bF NJ bM o! o! o! f.chain.length 0 0 o! (fun k_=>(((AV.agg [j.ah,j.ag])::(AV.agg [(Zi f.ay),f.aS,(Zi f.ai)])::(Pt h.nx)::(Pt h1.nx)::(AV.bool false)::(Zi 0)::(Zi 0)::AV.undef::AV.undef::AV.undef::(AV.ptr h1.nx 1)::f.aS::(Zn f.chain.length)::(AV.bool (decide (((f.chain.length:Nat):Int)=0)))::gB 102):List AV).getD k_ AV.undef) h2 eW cD o! (cx _ _ aI) bS)
     have kW:Has h h6:=Cb
     have e:fH j f=(decide (f.ay≤rv5)):=by simp only[fH,f0,pQ,aj,af]
     rw[e]
     exact ax rfl (aR Tryz.func33 mM rfl (.inr rfl) (pk (d+2) _ _ h _ h6 (NN bD (fun i=>(Pt i))<|NN fA (fun i=>(Pt i))<|CN 2<|MM (ao 26 1 f.aS bS k!)<|VV yh<|VV (f_ 3 false true .i64 ((f.chain.length:Nat):Int) 0)<|BB f0<|CN 2<|LL nL<|CC<|MM (ao 3 0 (Zi f.ay) aaC k!)<|CC<|VV (kI 3 false false .i64 f.ay rv5)<|CC<|ZZ) k!) k!) kW rfl
   | inr Zz=>
     obtain ⟨VW,OO,h6,nL,mD,R2,Cb⟩:=bI.r pQ (qf (d:=d) (h:=h) f j h.nx h1.nx bF.1 bF.2 NJ bF NJ bM o! o! o! f.chain.length 0 0 o! (fun k_=>(((AV.agg [j.ah,j.ag])::(AV.agg [(Zi f.ay),f.aS,(Zi f.ai)])::(Pt h.nx)::(Pt h1.nx)::(AV.bool false)::(Zi 0)::(Zi 0)::AV.undef::AV.undef::AV.undef::(AV.ptr h1.nx 1)::f.aS::(Zn f.chain.length)::(AV.bool (decide (((f.chain.length:Nat):Int)=0)))::gB 102):List AV).getD k_ AV.undef) h2 eW cD o! (cx _ _ aI) bS)
     have kW:Has h h6:=Cb
     have e:fH j f=Zz:=by simp only[fH,f0,pQ,aj,af]
     rw[e]
     exact ax rfl (aR Tryz.func33 mM rfl (.inr rfl) (pk (d+2) _ _ h _ h6 (NN bD (fun i=>(Pt i))<|NN fA (fun i=>(Pt i))<|CN 2<|MM (ao 26 1 f.aS bS k!)<|VV yh<|VV (f_ 3 false true .i64 ((f.chain.length:Nat):Int) 0)<|BB f0<|CN 2<|LL nL<|ZZ) k!) k!) kW rfl
def DE:Code:=(Tryz.f12.body).getD .skip
theorem wi:Tryz.f12.body=some DE:=by kernel_rfl
def aX (j:cF) (f:jg):Bool×Int:=(bif (!decide ((b9 j)=0)) then (false,(b9 j)) else (bif (decide (f.ay≤0)) then (true,0) else ((fH j f),0)))
theorem LY {d:Nat} {h:ak} (j:cF) (f:jg) (bF:aB.ok h j) (NJ:aB.ok h f) (bM:Tidy h):cA (d+4) (.fn 12) [(AV.agg [j.ah,j.ag]),(AV.agg [(Zi f.ay),f.aS,(Zi f.ai)])] h= .ret (AV.tuple [(AV.bool (aX j f).1),(Zi (aX j f).2)]) h:=by
 have eS:=bF.1.small
 have eT:=bF.2.small
 obtain ⟨h1,bD,cb,ib,aI,cf⟩:=ik bM (aK.cells [j.ah,j.ag] 25 false)
 have bx:Has h h1:=cf
 obtain ⟨h2,fA,eW,xw,bS,cx⟩:=ik cb (aK.cells [(Zi f.ay),f.aS,(Zi f.ai)] 28 false)
 have cD:Has h h2:=bx.trans cx
 have k3:=qx (d:=d) j (aB.mono cD bF) eW
 rcases Bool.eq_false_or_eq_true (!decide ((b9 j)=0)) with f0 | f0
 · have fw:=C2 f0
   have e:aX j f=(false,(b9 j)):=by simp only[aX,f0,aj,af]
   rw[e]
   exact ax rfl (aR Tryz.func12 wi rfl (.inr rfl) (pk (d+3) _ _ h _ h2 (NN bD (fun i=>(Pt i))<|NN fA (fun i=>(Pt i))<|CN 2<|MM (ao 25 0 (AV.agg [j.ah,j.ag]) (cx _ _ aI) k!)<|EE k3<|CN 2<|VV (eC 31 false true .i64 (b9 j) 0)<|BB f0<|CN 3<|ZZ) k!) k!) cD rfl
 · have fw:=C3 f0
   rcases Bool.eq_false_or_eq_true (decide (f.ay≤0)) with f1 | f1
   · have ea:=of_decide_eq_true f1
     have e:aX j f=(true,0):=by simp only[aX,f0,f1,aj,af]
     rw[e]
     exact ax rfl (aR Tryz.func12 wi rfl (.inr rfl) (pk (d+3) _ _ h _ h2 (NN bD (fun i=>(Pt i))<|NN fA (fun i=>(Pt i))<|CN 2<|MM (ao 25 0 (AV.agg [j.ah,j.ag]) (cx _ _ aI) k!)<|EE k3<|CN 2<|VV (eC 31 false true .i64 (b9 j) 0)<|BC f0<|MM (ao 3 0 (Zi f.ay) bS k!)<|VV (kI 3 false true .i64 f.ay 0)<|CC<|BB f1<|BB f1<|BV f1 (qI true f1)<|CN 2<|ZZ) k!) k!) cD rfl
   · have ea:=of_decide_eq_false f1
     have k6:=LX (d:=d) j f (aB.mono cD bF) (aB.mono cD NJ) eW
     have e:aX j f=((fH j f),0):=by simp only[aX,f0,f1,aj,af]
     rw[e]
     exact ax rfl (aR Tryz.func12 wi rfl (.inr rfl) (pk (d+3) _ _ h _ h2 (NN bD (fun i=>(Pt i))<|NN fA (fun i=>(Pt i))<|CN 2<|MM (ao 25 0 (AV.agg [j.ah,j.ag]) (cx _ _ aI) k!)<|EE k3<|CN 2<|VV (eC 31 false true .i64 (b9 j) 0)<|BC f0<|MM (ao 3 0 (Zi f.ay) bS k!)<|VV (kI 3 false true .i64 f.ay 0)<|CC<|BM f1 (ao 25 0 (AV.agg [j.ah,j.ag]) (cx _ _ aI) k!)<|BM f1 (ao 28 0 (AV.agg [(Zi f.ay),f.aS,(Zi f.ai)]) bS k!)<|BB f1<|EE k6<|VV (bf (a:=some (AV.bool true)) (b:=some (AV.bool (fH j f))) f1)<|CN 2<|ZZ) k!) k!) cD rfl
end
end Go.Proofs.aE
