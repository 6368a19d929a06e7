import Derived.Test.YtemlmndojncekaaGreatW0
import Derived.Test.YtemlmndojncekaaGreatW5
import Derived.Test.YtemlmndojncekaaGreatW3
namespace Go.Proofs.aQ
open Go.Proofs Ab
noncomputable section
set_option maxRecDepth 100000
set_option maxHeartbeats 4000000
set_option linter.unusedVariables false
set_option linter.unusedSimpArgs false
theorem mV {p:Prop} (h:p:=by first | omega | exact fG.1 | (refine ⟨⟨by omega,by omega,fun _=>?_⟩,by omega⟩;first | exact fG.1.2.2 o! | simp_all)):p:=h
def si:Code:=(Tryz.f57.body).getD .skip
theorem RI:Tryz.f57.body=some si:=by kernel_rfl
def LY:Code:=(bw si).getD 0 .skip
def LZ:Code:=(bw si).getD 1 .skip
def b7 (bj:List Bool) (j:cx):Nat→Int→Int→Int
 | 0,hI,gO=>hI
 | o8+1,hI,gO=>(bif (decide (0≤gO)) then (bif (!(bj.g gO.toNat)) then (bif (km (j.ab.g gO.toNat) bj) then b7 bj j o8 gO (gO - 1) else b7 bj j o8 hI (gO - 1)) else b7 bj j o8 hI (gO - 1)) else hI)
theorem oL {d:Nat} {h:aC} (j:cx) (z0:AV) (bj:List Bool) (cU:Nat) (dt:Nat) (eM:aW h j.aw j.ab) (eR:aW h j.ao j.af) (mZ:aR.ok h j) (pH:∀i,i<j.ab.length→∀q,q<(j.ab.g i).aB.length→0≤(j.ab.g i).aB.g q∧(j.ab.g i).aB.g q<(j.ab.length:Int)) (qP:j.ab.length≤100000) (qQ:bj.length=j.ab.length):∀(k_:Nat) (hI:Int) (gO:Int) (_:(gO+1≤(k_:Int))) (_:((-1≤hI∧hI<(j.ab.length:Int)∧(0≤hI→bj.g hI.toNat=false))∧gO<(j.ab.length:Int))) (x:Nat→AV) (hh:aC) (aI:Tidy hh) (aE:Has h hh) (cO:hh.get cU=some (aM.cells [j.aw,j.ao] 25 false)) (dA:hh.get dt=some (aM.cells (bs bj) 4 false)),cE (cN (d+1)) LZ ⟨((x 0)::(Pt cU)::(x 2)::(AV.slice dt 0 j.ab.length j.ab.length false)::z0::(Zi hI)::(Zi gO)::rx x 7 37 []),hh,[],.no⟩ (.exit 2) hh (fun r y=>((y 0)::(Pt cU)::(y 2)::(AV.slice dt 0 j.ab.length j.ab.length false)::z0::(Zi r)::rx y 6 38 [])) (fun r=>(-1≤r∧r<(j.ab.length:Int)∧(0≤r→bj.g r.toNat=false))) (b7 bj j k_ hI gO)
 | 0,hI,gO,fX,fG,x,hh,aI,aE,cO,dA=>by
   have q1:(decide (0≤gO))=false:=d!
   exact cE.out hI rfl (pk (d+1) _ _ hh _ hh (CC<|VV (rv 3 false true .i64 gO 0)<|BB q1<|ZZ) k!) (bE.refl aI) (show (-1≤hI∧hI<(j.ab.length:Int)∧(0≤hI→bj.g hI.toNat=false)) from mV) k!
 | o8+1,hI,gO,fX,fG,x,hh,aI,aE,cO,dA=>by
   have qR:=eM.small
   have r7:=eR.small
   have Iz:=aI _ _ cO
   have Q_:=aI _ _ dA
   have NB:=pH
   have dJ:=fun {al ps} (k:Pk al _ ps)=>(CC<|VV (rv 3 false true .i64 gO 0)<|k:Pk _ [] ps)
   rcases Bool.eq_false_or_eq_true (decide (0≤gO)) with f0 | f0
   · have jf:=of_decide_eq_true f0
     have iW:bO env (some (.slice 4)) (some (AV.slice dt 0 j.ab.length j.ab.length false)) (some (Zi gO))=some (AV.ptr dt gO.toNat):=jc k! (show gO.toNat<j.ab.length by omega) o!
     have ld3:bh env hh 4 (AV.ptr dt gO.toNat)=some (AV.bool (bj.g gO.toNat)):=TE k! dA l!
     have hX:=fun {al ps} (k:Pk al _ ps)=>(dJ<|BB f0<|CN 2<|VV iW<|MM ld3<|CN 2<|k:Pk _ [] ps)
     rcases Bool.eq_false_or_eq_true (!(bj.g gO.toNat)) with f1 | f1
     · obtain ⟨p6,q7,Z3⟩:=(eM.has aE).elem (i:=gO.toNat) o!
       have ix5:bO env (some (.slice 40)) (some j.aw) (some (Zi gO))=some (AV.ptr p6 q7):=by rw[show (gO:Int)=((gO.toNat:Nat):Int) by omega];exact Z3
       have ld8:bh env hh 40 (AV.ptr p6 q7)=some (AV.agg [(AV.str (j.ab.g gO.toNat).name),(Zi (j.ab.g gO.toNat).takes),(j.ab.g gO.toNat).aU,(j.ab.g gO.toNat).a_]):=(eM.has aE).load o! Z3
       have k9:=VZ (d:=d) (j.ab.g gO.toNat) bj ((eM.has aE).ok (i:=gO.toNat) o!) (oh.own (op:=false) (n:=j.ab.length) k! k! dA l! o!) (by first | omega | assumption | (intro q hq;have q_:=NB _ o! q hq;omega)) aI
       have ow:=fun {al ps} (k:Pk al _ ps)=>(hX<|BC f1<|BM f1 (aO 22 0 j.aw cO k!)<|BC f1<|BV f1 ix5<|BM f1 ld8<|BC f1<|BB f1<|EE k9<|VV (sP (km (j.ab.g gO.toNat) bj) false f1)<|k:Pk _ [] ps)
       rcases Bool.eq_false_or_eq_true (km (j.ab.g gO.toNat) bj) with f2 | f2
       · have w11:IntKind.i64.wrap (gO - 1)=gO - 1:=wrap_i64 o! o!
         exact cE.round (by simp only[b7,f0,f1,f2,aj,ai]) (pk (d+1) _ _ hh _ hh (ow<|BB f2<|CN 3<|VV (CO 3 false true w11)<|CC<|ZZ) k!) (bE.refl aI) _ k! (fun x=>oL j z0 bj cU dt eM eR mZ pH qP qQ o8 gO (gO - 1) o! (show ((-1≤gO∧gO<(j.ab.length:Int)∧(0≤gO→bj.g gO.toNat=false))∧(gO - 1)<(j.ab.length:Int)) from mV) x hh aI aE cO dA)
       · have w11:IntKind.i64.wrap (gO - 1)=gO - 1:=wrap_i64 o! o!
         exact cE.round (by simp only[b7,f0,f1,f2,aj,ai]) (pk (d+1) _ _ hh _ hh (ow<|BC f2<|VV (CO 3 false true w11)<|CC<|ZZ) k!) (bE.refl aI) _ k! (fun x=>oL j z0 bj cU dt eM eR mZ pH qP qQ o8 hI (gO - 1) o! (show ((-1≤hI∧hI<(j.ab.length:Int)∧(0≤hI→bj.g hI.toNat=false))∧(gO - 1)<(j.ab.length:Int)) from mV) x hh aI aE cO dA)
     · have w5:IntKind.i64.wrap (gO - 1)=gO - 1:=wrap_i64 o! o!
       exact cE.round (by simp only[b7,f0,f1,aj,ai]) (pk (d+1) _ _ hh _ hh (hX<|BB f1<|BB f1<|BB f1<|BB f1<|BB f1<|BB f1<|BV f1 (yB false f1)<|FF<|CC<|VV (CO 3 false true w5)<|CC<|ZZ) k!) (bE.refl aI) _ k! (fun x=>oL j z0 bj cU dt eM eR mZ pH qP qQ o8 hI (gO - 1) o! (show ((-1≤hI∧hI<(j.ab.length:Int)∧(0≤hI→bj.g hI.toNat=false))∧(gO - 1)<(j.ab.length:Int)) from mV) x hh aI aE cO dA)
   · exact cE.out hI (by simp only[b7,f0,aj,ai]) (pk (d+1) _ _ hh _ hh (dJ<|BB f0<|ZZ) k!) (bE.refl aI) (show (-1≤hI∧hI<(j.ab.length:Int)∧(0≤hI→bj.g hI.toNat=false)) from mV) k!
def gV (j:cx):Nat→List Int→List Bool→List Int
 | 0,BS,bj=>default
 | dq+1,BS,bj=>(bif (decide ((b7 bj j ((((j.ab.length:Nat):Int) - 1)+1).toNat (-1) (((j.ab.length:Nat):Int) - 1))<0)) then BS else gV j dq (BS++[(b7 bj j ((((j.ab.length:Nat):Int) - 1)+1).toNat (-1) (((j.ab.length:Nat):Int) - 1))]) (bj.set (b7 bj j ((((j.ab.length:Nat):Int) - 1)+1).toNat (-1) (((j.ab.length:Nat):Int) - 1)).toNat true))
theorem ze {d:Nat} {h:aC} {gg0:aC} (j:cx) (bk:Nat) (cG:Nat) (bx:aW h j.aw j.ab) (cZ:aW h j.ao j.af) (g5:aR.ok h j) (hF:∀i,i<j.ab.length→∀q,q<(j.ab.g i).aB.length→0≤(j.ab.g i).aB.g q∧(j.ab.g i).aB.g q<(j.ab.length:Int)) (je:j.ab.length≤100000) (ch:Tidy h) (uo:h.nx≤bk) (GK:h.nx≤cG) (qS:cG≠bk) (NG0:h.nx≤gg0.nx) (Oz:bk<gg0.nx) (Zj:cG<gg0.nx):∀(k_:Nat) (BS:List Int) (bj:List Bool) (z0:AV) (_:((nF bj:Nat):Int)+1≤(k_:Int)) (_:(BS.length+nF bj=j.ab.length)) (x:Nat→AV) (hh:aC) (aI:Tidy hh) (aE:Has h hh) (gC:h.nx≤hh.nx) (jh:bj.length=j.ab.length) (br:hh.get bk=some (aM.cells [j.aw,j.ao] 25 false)) (dK:hh.get cG=some (aM.cells (bs bj) 4 false)) (TN:hU 3 gg0 hh z0 (zs .i64 BS)) (lz0:BS.length≤1000000000) (D4:gg0.nx≤hh.nx),bS (σ:=List Bool) (ρ:=List Int) (cN (d+1)) LY ⟨((x 0)::(Pt bk)::(x 2)::(AV.slice cG 0 j.ab.length j.ab.length false)::z0::rx x 5 39 []),hh,[],.no⟩ (.exit 0) hh (fun r z y=>((y 0)::(Pt bk)::(y 2)::(AV.slice cG 0 j.ab.length j.ab.length false)::rx y 4 40 [])) (fun r z y=>((y 0)::(Pt bk)::z::(AV.slice cG 0 j.ab.length j.ab.length false)::rx y 4 40 [])) (fun r z hk=>True) (fun r z hk=>Has h hk∧hU 3 gg0 hk z (zs .i64 r)∧r.length≤1000000000) (Sum.inr (gV j k_ BS bj))
 | 0,BS,bj,z0,fX,fG,x,hh,aI,aE,gC,jh,br,dK,TN,lz0,D4=>by
   exfalso;omega
 | dq+1,BS,bj,z0,fX,fG,x,hh,aI,aE,gC,jh,br,dK,TN,lz0,D4=>by
   have gT:=bx.small
   have nz:=cZ.small
   have sU:=aI _ _ br
   have Lw:=aI _ _ dK
   have NB:=hF
   have iC:cb (some (.slice 40)) (some j.aw)=some (Zn j.ab.length):=bx.len
   have w2:IntKind.i64.wrap (((j.ab.length:Nat):Int) - 1)=((j.ab.length:Nat):Int) - 1:=wrap_i64 o! o!
   obtain ⟨MV,h4,kK,f_,E7⟩:=oL (d:=d) (h:=h) j z0 bj bk cG bx cZ g5 NB o! o! ((((j.ab.length:Nat):Int) - 1)+1).toNat (-1) (((j.ab.length:Nat):Int) - 1) o! (show ((-1≤(-1)∧(-1)<(j.ab.length:Int)∧(0≤(-1)→bj.g (-1).toNat=false))∧(((j.ab.length:Nat):Int) - 1)<(j.ab.length:Int)) from mV) (fun k_=>(((x 0)::(Pt bk)::(x 2)::(AV.slice cG 0 j.ab.length j.ab.length false)::z0::(Zi (-1))::(Zi (((j.ab.length:Nat):Int) - 1))::rx x 7 4 ((Pt bk)::j.aw::(Zn j.ab.length)::(Zi (((j.ab.length:Nat):Int) - 1))::rx x 15 29 [])):List AV).getD k_ AV.undef) hh aI aE br dK
   have lI:=f_.y
   have ZP:hh.nx≤h4.nx:=f_.n
   have jC:Has h h4:=aE.trans f_.a
   have Ud:Has hh h4:=f_.a
   have y9:=fun {al ps} (k:Pk al _ ps)=>(CN 2<|MM (aO 22 0 j.aw br k!)<|VV iC<|VV (CO 3 false true w2)<|CC<|LL kK<|CC<|VV (bL 3 false true .i64 (b7 bj j ((((j.ab.length:Nat):Int) - 1)+1).toNat (-1) (((j.ab.length:Nat):Int) - 1)) 0)<|k:Pk _ [] ps)
   rcases Bool.eq_false_or_eq_true (decide ((b7 bj j ((((j.ab.length:Nat):Int) - 1)+1).toNat (-1) (((j.ab.length:Nat):Int) - 1))<0)) with f0 | f0
   · have jf:=of_decide_eq_true f0
     exact bS.ret BS z0 (congrArg Sum.inr (by simp only[gV,f0,aj,ai])) (pk (d+1) _ _ hh _ h4 (y9<|BB f0<|CN 2<|ZZ) k!) lI o! ⟨jC,(TN.has Ud),(by first | omega | (simp<;>omega))⟩ k!
   · have jf:=of_decide_eq_false f0
     have Lr:bO env (some (.slice 4)) (some (AV.slice cG 0 j.ab.length j.ab.length false)) (some (Zi (b7 bj j ((((j.ab.length:Nat):Int) - 1)+1).toNat (-1) (((j.ab.length:Nat):Int) - 1))))=some (AV.ptr cG (b7 bj j ((((j.ab.length:Nat):Int) - 1)+1).toNat (-1) (((j.ab.length:Nat):Int) - 1)).toNat):=jc k! (show (b7 bj j ((((j.ab.length:Nat):Int) - 1)+1).toNat (-1) (((j.ab.length:Nat):Int) - 1)).toNat<j.ab.length by omega) o!
     obtain ⟨h7,ag3⟩:∃G4:aC,G4=h4.put cG (some (aM.cells (bs (bj.set (b7 bj j ((((j.ab.length:Nat):Int) - 1)+1).toNat (-1) (((j.ab.length:Nat):Int) - 1)).toNat true)) 4 false)):=⟨_,rfl⟩
     have l7:dV env h4 4 (AV.ptr cG (b7 bj j ((((j.ab.length:Nat):Int) - 1)+1).toNat (-1) (((j.ab.length:Nat):Int) - 1)).toNat) (AV.bool true)=some h7:=by rw[ag3];exact o6 k! (f_.a _ _ dK) l!
     have Z4:Iv h4 h7 cG (aM.cells (bs (bj.set (b7 bj j ((((j.ab.length:Nat):Int) - 1)+1).toNat (-1) (((j.ab.length:Nat):Int) - 1)).toNat true)) 4 false):=by rw[ag3];exact jD lI (f_.a _ _ dK)
     have eP:=Z4.1
     have vH:h7.nx=h4.nx:=by rw[ag3];rfl
     have dm:Has h h7:=Z4.has jC ch o!
     obtain ⟨h8,agx,sa,agy,lg,C5⟩:=jE eP (aM.cells [(Zi (b7 bj j ((((j.ab.length:Nat):Int) - 1)+1).toNat (-1) (((j.ab.length:Nat):Int) - 1)))] 3 false)
     have o9:Has h h8:=dm.trans C5
     have adz:Has h7 h8:=C5
     obtain ⟨z10,h9,ake,uq,VG,ag4,amJ⟩:=hU.ac1 (k:= .i64) (g:=gg0) (tys:= #[26,26]) (v:=(b7 bj j ((((j.ab.length:Nat):Int) - 1)+1).toNat (-1) (((j.ab.length:Nat):Int) - 1))) (L:=BS) sa o! (((TN.has Ud).chg Z4 o!).has adz) lg (by first | omega | (simp<;>omega)) rfl rfl k! k! k! (bytes:=8) k! (z0:=Zi 0) k! rfl (by decide)
     have mJ:Has h h9:=Has.Q4 o9 ch o! ag4
     exact bS.round (congrArg Sum.inr (by simp only[gV,f0,aj,ai])) (pk (d+1) _ _ hh _ h9 (y9<|BB f0<|CN 2<|VV Lr<|SS l7<|CN 2<|NN agx (fun i=>(AV.slice i 0 1 1 false))<|PP (show du env h8 #[26,26] z0 (AV.slice h7.nx 0 1 1 false)=some (z10,h9) from ake)<|CC<|ZZ) k!) o! _ k! (fun x=>ze j bk cG bx cZ g5 hF je ch uo GK qS NG0 Oz Zj dq (BS++[(b7 bj j ((((j.ab.length:Nat):Int) - 1)+1).toNat (-1) (((j.ab.length:Nat):Int) - 1))]) (bj.set (b7 bj j ((((j.ab.length:Nat):Int) - 1)+1).toNat (-1) (((j.ab.length:Nat):Int) - 1)).toNat true) z10 (by have e_:=ZE o! o! (E7.2.2 o!);first | omega | (simp only[List.length_append,List.length_cons,List.length_nil];omega)) (show ((BS++[(b7 bj j ((((j.ab.length:Nat):Int) - 1)+1).toNat (-1) (((j.ab.length:Nat):Int) - 1))]).length+nF (bj.set (b7 bj j ((((j.ab.length:Nat):Int) - 1)+1).toNat (-1) (((j.ab.length:Nat):Int) - 1)).toNat true)=j.ab.length) from (by have e_:=ZE o! o! (E7.2.2 o!);first | omega | (simp only[List.length_append,List.length_cons,List.length_nil];omega))) x h9 uq mJ o! l! (ag4 _ _ o! (C5 _ _ (Z4.2.2 _ _ o! (f_.a _ _ br)))) (ag4 _ _ o! (C5 _ _ Z4.2.1)) amJ (by first | omega | (simp<;>omega)) o!)
def gn (j:cx):List Int:=(gV j (((nF (List.replicate j.ab.length false):Nat):Int)+1).toNat ([]) (List.replicate j.ab.length false))
theorem RJ {d:Nat} {h:aC} (j:cx) (bV:aR.ok h j) (l6:∀i,i<j.ab.length→∀q,q<(j.ab.g i).aB.length→0≤(j.ab.g i).aB.g q∧(j.ab.g i).aB.g q<(j.ab.length:Int)) (om:j.ab.length≤100000) (ch:Tidy h):∃z hk,cN (d+2) (.fn 57) [(AV.agg [j.aw,j.ao])] h= .ret z hk∧bE h hk∧b8 hk .i64 3 z (gn j)∧hU 3 h hk z (zs .i64 (gn j)):=by
 obtain ⟨h1,di,cS,jU,bm,bP⟩:=jE ch (aM.cells [j.aw,j.ao] 25 false)
 have bA:Has h h1:=bP
 have EC:cb (some (.slice 40)) (some j.aw)=some (Zn j.ab.length):=bV.1.len
 have mk3:yV env (some (.slice 4)) (some (Zn j.ab.length)) (some (Zn j.ab.length))=some (aM.cells (bT [(AV.bool false)] j.ab.length) 4 false,fun i=>AV.slice i 0 j.ab.length j.ab.length false):=od (bytes:=1) (z:=(AV.bool false)) k! k! k! rfl (by decide) o!
 obtain ⟨h4,IB,lI,VP,LF,xb⟩:=jE cS (aM.cells (bT [(AV.bool false)] j.ab.length) 4 false)
 have jC:Has h h4:=bA.trans xb
 have O8:h4.get h1.nx=some (aM.cells (bs (List.replicate j.ab.length false)) 4 false):=by have q:=LF;rw[zO] at q;exact q
 obtain ⟨zo7,VY,h6,sh,ji,agU,O1,Rz,agW⟩:=bS.r rfl (ze (d:=d) (h:=h) (gg0:=h4) j h.nx h1.nx bV.1 bV.2 bV l6 o! ch o! o! o! o! o! o! (((nF (List.replicate j.ab.length false):Nat):Int)+1).toNat ([]) (List.replicate j.ab.length false) AV.aG o! (show (([]).length+nF (List.replicate j.ab.length false)=j.ab.length) from (by rw[qU];simp)) (fun k_=>(((AV.agg [j.aw,j.ao])::(Pt h.nx)::AV.aG::(AV.slice h1.nx 0 j.ab.length j.ab.length false)::AV.aG::AV.undef::AV.undef::(Pt h.nx)::j.aw::(Zn j.ab.length)::(AV.slice h1.nx 0 j.ab.length j.ab.length false)::jX 33):List AV).getD k_ AV.undef) h4 lI jC o! l! (xb _ _ bm) O8 (.inl ⟨rfl,rfl⟩) (Nat.zero_le _) o!)
 have hZ:Has h h6:=O1
 have e:gn j=(gV j (((nF (List.replicate j.ab.length false):Nat):Int)+1).toNat ([]) (List.replicate j.ab.length false)):=by simp only[gn,aj,ai]
 rw[e]
 have oz:=hU.le (h0:=h) Rz o!
 exact ⟨zo7,gA rfl (bb Tryz.func57 RI rfl (.inr rfl) (pk (d+1) _ _ h _ h6 (NN di (fun i=>(Pt i))<|CN 2<|MM (aO 22 0 j.aw bm k!)<|VV EC<|KK mk3 IB<|CN 2<|LL sh<|ZZ) k!) k!) ch ⟨ji,hZ,by omega⟩ (P:=fun hh=>b8 hh .i64 3 zo7 (gV j (((nF (List.replicate j.ab.length false):Nat):Int)+1).toNat ([]) (List.replicate j.ab.length false))∧hU 3 h hh zo7 (zs .i64 (gV j (((nF (List.replicate j.ab.length false):Nat):Int)+1).toNat ([]) (List.replicate j.ab.length false)))) ⟨oz.zs o! k! k!,oz⟩ fun v=>⟨oz.YW v k! k!,oz.YZ v⟩⟩
theorem J1 {x:Task} {p:List Bool}:∀k i,lk x p k i=bif anyI (fun n=> !(p.g (Int.toNat (x.aB.g n)))) k i then some false else none
 | 0,i=>rfl
 | k+1,i=>by
   rw[lk,anyI,J1 k (i+1)]
   cases p.g (Int.toNat (x.aB.g i))<;>rfl
theorem xq (x:Task) (p:List Bool):km x p= !(anyI (fun n=> !(p.g (Int.toNat (x.aB.g n)))) x.aB.length 0):=by
 rw[km,J1]
 cases anyI (fun n=> !(p.g (Int.toNat (x.aB.g n)))) x.aB.length 0<;>rfl
theorem Ue {s:List Int} {P:Nat→Bool}:∀k i,(gN s P k i=none∧anyI P k i=false)∨∃n:Nat,gN s P k i=some (n:Int)∧anyI P k i=true
 | 0,i=> .inl ⟨rfl,rfl⟩
 | k+1,i=>by
   rw[gN,anyI]
   cases h:P i with
   | true=>exact .inr ⟨i,rfl,rfl⟩
   | false=>exact Ue k (i+1)
theorem adA (s:List Int) (P:Nat→Bool):iy s P=anyI P s.length 0:=by
 rw[iy,kl]
 rcases Ue (s:=s) (P:=P) s.length 0 with ⟨e,f⟩ | ⟨n,e,f⟩
 · rw[e,f];rfl
 · rw[e,f];exact decide_eq_true (Int.natCast_nonneg n)
def Ic (ts:List Task) (p:List Bool) (i:Nat):Bool:= !(p.g i)&&km (ts.g i) p
theorem J2 (ts:List Task) (p:List Bool) (t:Int):lj ts p t=Ic ts p (Int.toNat t):=by
 rw[lj,Ic,adA,xq]
 cases p.g (Int.toNat t)<;>rfl
def hJ (P:Nat→Bool):Nat→Nat→Option Nat
 | 0,_=>none
 | k+1,i=>bif P i then some i else hJ P k (i+1)
theorem mW {P:Nat→Bool}:∀{k i m:Nat},hJ P k i=some m→P m=true∧i≤m∧m<i+k
 | 0,i,m,h=>by cases h
 | k+1,i,m,h=>by
   rw[hJ] at h
   cases e:P i with
   | true=>rw[e] at h;cases h;exact ⟨e,Nat.le_refl _,by omega⟩
   | false=>
     rw[e] at h
     have:=mW (k:=k) h
     exact ⟨this.1,by omega,by omega⟩
theorem Ea {P:Nat→Bool}:∀(k i:Nat),hJ P (k+1) i=match hJ P k i with | some q=>some q | none=>bif P (i+k) then some (i+k) else none
 | 0,i=>by rw[hJ,hJ];rfl
 | k+1,i=>by
   rw[hJ,Ea k (i+1),hJ]
   cases P i with
   | true=>rfl
   | false=>
     rw[ai,ai,show i+1+k=i+(k+1) by omega]
theorem Di {a:List Bool} {j:cx}:∀(m kq:Nat) (v:Int),m≤kq→b7 a j kq v ((m:Int) - 1)=match hJ (Ic j.ab a) m 0 with | some q=>(q:Int) | none=>v
 | 0,kq,v,h=>by
   cases kq with
   | zero=>rw[b7];rfl
   | succ kq=>rw[b7,decide_eq_false (by omega:¬(0:Int)≤((0:Nat):Int) - 1)];rfl
 | m+1,0,v,h=>by omega
 | m+1,kq+1,v,h=>by
   rw[b7,decide_eq_true (by omega:(0:Int)≤((m+1:Nat):Int) - 1),aj,show ((m+1:Nat):Int) - 1=((m:Nat):Int) by omega,Int.toNat_natCast,Di m kq _ o!,Di m kq _ o!,Ea,Nat.zero_add]
   have e:Ic j.ab a m=(!(a.g m)&&km (j.ab.g m) a):=rfl
   rw[e]
   cases a.g m<;>cases km (j.ab.g m) a<;>cases hJ (Ic j.ab a) m 0<;>rfl
def P' (ts:List Task) (x:List Int×List Bool):List Int×List Bool:=match hJ (Ic ts x.2) ts.length 0 with | some q=>(x.1++[(q:Int)],x.2.set q true) | none=>x
def vK (ts:List Task):Nat→List Int×List Bool→List Int×List Bool
 | 0,x=>x
 | k+1,x=>vK ts k (P' ts x)
theorem Z5 {oqd:List Int} {ts:List Task} (ho:∀i,i<ts.length→oqd.g i=(i:Int)):∀(k i:Nat) (v:List Int) (a:List Bool),i+k=ts.length→cz oqd ts k i v a=match hJ (Ic ts a) k i with | some q=>(v++[(q:Int)],a.set q true) | none=>(v,a)
 | 0,i,v,a,h=>rfl
 | k+1,i,v,a,h=>by
   rw[cz,hJ,J2,ho i o!,Int.toNat_natCast,Z5 ho k (i+1) v a o!]
   cases Ic ts a i<;>rfl
theorem Z6 {oqd:List Int} {ts:List Task} (ho:∀i,i<ts.length→oqd.g i=(i:Int)) (hl:oqd.length=ts.length):∀(k i:Nat) (v:List Int) (a:List Bool),da oqd ts k i v a=vK ts k (v,a)
 | 0,i,v,a=>rfl
 | k+1,i,v,a=>by
   rw[da,Z6 ho hl k (i+1),vK,hl,Z5 ho _ _ _ _ o!,P']
theorem Z7 {ts:List Task}:∀(k i:Nat) (a:List Int),a.length=ts.length→i+k=ts.length→(∀q,q<i→a.g q=(q:Int))→(fV ts k i a).length=ts.length∧∀q,q<ts.length→(fV ts k i a).g q=(q:Int)
 | 0,i,a,hl,h,hq=>⟨hl,fun q hq'=>hq q o!⟩
 | k+1,i,a,hl,h,hq=>by
   rw[fV]
   refine Z7 k (i+1) _ (by rw[List.length_set];exact hl) o! fun q hq'=>?_
   by_cases e:q=i
   · subst e;exact g7 o!
   · rw[bn (Ne.symm e)];exact hq q o!
theorem uH (ts:List Task):eY ts=(vK ts ts.length ([],List.replicate ts.length false)).1:=by
 obtain ⟨h1,h2⟩:=Z7 (ts:=ts) ts.length 0 (List.replicate ts.length 0) (by rw[List.length_replicate]) o! fun q h=>by omega
 rw[eY,aL,Z6 h2 h1,h1];rfl
theorem E_:∀{l:List Bool},nF l=0→∀i,i<l.length→l.g i=true
 | [],_,i,h=>by simp at h
 | b::l,h,0,_=>by
   cases b with
   | true=>rfl
   | false=>simp [nF] at h
 | b::l,h,i+1,hi=>by
   have:nF l=0:=by
    rw[nF] at h;omega
   exact E_ this i (by simpa using hi)
theorem Uf (ts:List Task) (x:List Int×List Bool):(P' ts x).2.length=x.2.length:=by
 rw[P'];cases hJ (Ic ts x.2) ts.length 0 with
 | none=>rfl
 | some q=>exact List.length_set ..
theorem O_ {ts:List Task} {a:List Bool} {m:Nat} (h:Ic ts a m=true):a.g m=false∧km (ts.g m) a=true:=by
 rw[Ic] at h
 cases e:a.g m with
 | true=>rw[e] at h;cases h
 | false=>rw[e] at h;exact ⟨rfl,h⟩
theorem V0 (ts:List Task) (x:List Int×List Bool) (hl:x.2.length=ts.length):(P' ts x).1.length+nF (P' ts x).2=x.1.length+nF x.2:=by
 rw[P']
 cases e:hJ (Ic ts x.2) ts.length 0 with
 | none=>rfl
 | some q=>
   have f:=mW e
   have:=C8 (l:=x.2) (n:=q) o! (O_ f.1).1
   show (x.1++[(q:Int)]).length+nF (x.2.set q true)=_
   rw[List.length_append,List.length_singleton];omega
theorem uI (ts:List Task):∀(k:Nat) (x:List Int×List Bool),x.2.length=ts.length→(vK ts k x).1.length+nF (vK ts k x).2=x.1.length+nF x.2∧(vK ts k x).2.length=ts.length
 | 0,x,hl=>⟨rfl,hl⟩
 | k+1,x,hl=>by
   rw[vK]
   have h:=uI ts k (P' ts x) (by rw[Uf];exact hl)
   rw[V0 ts x hl] at h
   exact h
theorem O' {ts:List Task} {x:List Int×List Bool} (h:hJ (Ic ts x.2) ts.length 0=none):∀k,vK ts k x=x
 | 0=>rfl
 | k+1=>by
   have:P' ts x=x:=by rw[P',h]
   rw[vK,this,O' h k]
theorem J3 {j:cx}:∀(k kq:Nat) (v:List Int) (a:List Bool),a.length=j.ab.length→nF a≤k→nF a+1≤kq→gV j kq v a=(vK j.ab k (v,a)).1
 | k,0,v,a,hl,h1,h2=>by omega
 | k,kq+1,v,a,hl,h1,h2=>by
   rw[gV,show Int.toNat ((((j.ab.length:Nat):Int) - 1)+1)=j.ab.length by omega,Di _ _ _ (Nat.le_refl _)]
   cases e:hJ (Ic j.ab a) j.ab.length 0 with
   | none=>
     rw[O' (x:=(v,a)) e]
     rfl
   | some q=>
     have f:=mW e
     have g:=O_ f.1
     have c:=C8 (l:=a) (n:=q) o! g.1
     match k,h1 with
     | 0,h1=>omega
     | k+1,h1=>
       have s:P' j.ab (v,a)=(v++[(q:Int)],a.set q true):=by rw[P',e]
       rw[vK,s]
       show (bif decide ((q:Int)<0) then v else gV j kq (v++[(q:Int)]) (a.set (Int.toNat (q:Int)) true))=_
       rw[decide_eq_false (by omega:¬(q:Int)<0),ai,Int.toNat_natCast]
       exact J3 k kq _ _ (by rw[List.length_set];exact hl) o! o!
theorem J4 (j:cx):eY j.ab=gn j:=by
 rw[uH,gn,qU]
 exact (J3 _ _ _ _ (by rw[List.length_replicate]) (by rw[qU];exact Nat.le_refl _) (by rw[qU];omega)).symm
theorem V1 (j:cx):(gn j).length≤j.ab.length:=by
 rw[←J4,uH]
 have:=(uI j.ab j.ab.length ([],List.replicate j.ab.length false) (by rw[List.length_replicate])).1
 rw[qU] at this
 have e:(([],List.replicate j.ab.length false):List Int×List Bool).1.length=0:=rfl
 omega
theorem J5 {ts:List Task} {m:Nat}:∀(k:Nat) (x:List Int×List Bool),(vK ts k x).2.g m=true→x.2.g m=true∨∀q,q<(ts.g m).aB.length→Int.toNat ((ts.g m).aB.g q)≠m
 | 0,x,h=> .inl h
 | k+1,x,h=>by
   rw[vK] at h
   rcases J5 k (P' ts x) h with g | g
   · rw[P'] at g
     cases e:hJ (Ic ts x.2) ts.length 0 with
     | none=>rw[e] at g;exact .inl g
     | some q=>
       rw[e] at g
       have f:=mW e
       have n:=O_ f.1
       by_cases z:q=m
       · subst z
         refine .inr fun i hi ei=>?_
         have r:=n.2
         rw[xq] at r
         have:=qX (P:=fun i=> !(x.2.g (Int.toNat ((ts.g q).aB.g i)))) (k:=(ts.g q).aB.length) (i:=0) (by cases z:anyI (fun i=> !(x.2.g (Int.toNat ((ts.g q).aB.g i)))) (ts.g q).aB.length 0;rfl;rw[z] at r;cases r) i (Nat.zero_le _) o!
         rw[ei,n.1] at this;cases this
       · refine .inl ?_
         have:(x.2.set q true).g m=x.2.g m:=by
          rw[List.g,List.g,List.getD_eq_getElem?_getD,List.getD_eq_getElem?_getD,List.getElem?_set_ne z]
         exact this.symm.trans g
   · exact .inr g
theorem adB {j:cx} (F:b5 j) {i:Nat} (hi:i<j.ab.length):∀q,q<(j.ab.g i).aB.length→(j.ab.g i).aB.g q≠(i:Int):=by
 have c:=uI j.ab j.ab.length ([],List.replicate j.ab.length false) (by rw[List.length_replicate])
 have l:=F.io
 rw[uH] at l
 rw[qU] at c
 have e0:(([],List.replicate j.ab.length false):List Int×List Bool).1.length=0:=rfl
 have z:nF (vK j.ab j.ab.length ([],List.replicate j.ab.length false)).2=0:=by omega
 rcases J5 (m:=i) _ _ (E_ z i (by rw[c.2];exact hi)) with g | g
 · have:(List.replicate j.ab.length false).g i=false:=by
    rw[List.g,List.getD_eq_getElem?_getD,List.getElem?_replicate,if_pos hi];rfl
   rw[this] at g;cases g
 · exact fun q hq e=>g q hq (by rw[e,Int.toNat_natCast])
def Eb:Code:=(Tryz.f142.body).getD .skip
theorem Pa:Tryz.f142.body=some Eb:=by kernel_rfl
def RK:Code:=(bw Eb).getD 0 .skip
def kG (x_:Task) (ah:Int):Nat→Nat→Option (Int)
 | 0,_=>none
 | dq+1,i0=>(bif (decide ((x_.aA.g i0).ah=ah)) then some (x_.aA.g i0).aJ else kG x_ ah dq (i0+1))
theorem Ec {d:Nat} {h:aC} (ah:Int) (x_:Task) (bk:Nat) (bx:x_.name.length<2^60) (cZ:b8 h .i64 3 x_.aU x_.aB) (fj:aW h x_.a_ x_.aA) (g5:aR.ok h x_):∀(k_ i_:Nat) (_:i_+k_=x_.aA.length) (x:Nat→AV) (hh:aC) (aI:Tidy hh) (aE:Has h hh) (br:hh.get bk=some (aM.cells [(AV.str x_.name),(Zi x_.takes),x_.aU,x_.a_] 40 false)),aF (cN (d)) RK ⟨((x 0)::(Zi ah)::(Pt bk)::(x 3)::(x 4)::(Zn i_)::rx x 6 21 []),hh,[],.no⟩ (.exit 0) hh (fun y=>((y 0)::(Zi ah)::(Pt bk)::rx y 3 24 [])) (fun r y=>((y 0)::(Zi ah)::(Pt bk)::(y 3)::(Zi r)::rx y 5 22 [])) (kG x_ ah k_ i_)
 | 0,i0,fX,x,hh,aI,aE,br=>by
   have iC:cb (some (.slice 83)) (some x_.a_)=some (Zn x_.aA.length):=(fj.has aE).len
   have q2:(decide (((i0:Nat):Int)<((x_.aA.length:Nat):Int)))=false:=d!
   exact aF.out rfl (pk (d) _ _ hh _ hh (CN 2<|MM (aO 38 3 x_.a_ br k!)<|VV iC<|VV (bL 3 false false .i64 ((i0:Nat):Int) ((x_.aA.length:Nat):Int))<|BB q2<|ZZ) k!) (bE.refl aI) k!
 | dq+1,i0,fX,x,hh,aI,aE,br=>by
   have nz:=cZ.small
   have uw:=fj.small
   have sU:=aI _ _ br
   have iC:cb (some (.slice 83)) (some x_.a_)=some (Zn x_.aA.length):=(fj.has aE).len
   have q2:(decide (((i0:Nat):Int)<((x_.aA.length:Nat):Int)))=true:=d!
   obtain ⟨p4,q5,lp⟩:=(fj.has aE).elem (i:=i0) o!
   have wJ:bO env (some (.slice 83)) (some x_.a_) (some (Zn i0))=some (AV.ptr p4 q5):=lp
   have tD:bh env hh 3 (AV.ptr p4 (q5+0))=some (Zi (x_.aA.g i0).ah):=(fj.has aE).part (t:=3) (j:=0) o! lp k! rfl
   have dJ:=fun {al ps} (k:Pk al _ ps)=>(CN 2<|MM (aO 38 3 x_.a_ br k!)<|VV iC<|VV (bL 3 false false .i64 ((i0:Nat):Int) ((x_.aA.length:Nat):Int))<|BC q2<|MM (aO 38 3 x_.a_ br k!)<|CC<|VV wJ<|CC<|MM tD<|CC<|VV (vE 3 false false .i64 (x_.aA.g i0).ah ah)<|k:Pk _ [] ps)
   rcases Bool.eq_false_or_eq_true (decide ((x_.aA.g i0).ah=ah)) with f1 | f1
   · have fP:=of_decide_eq_true f1
     obtain ⟨p9,Ed,qd⟩:=(fj.has aE).elem (i:=i0) o!
     have LB:bO env (some (.slice 83)) (some x_.a_) (some (Zn i0))=some (AV.ptr p9 Ed):=qd
     have ry:bh env hh 3 (AV.ptr p9 (Ed+1))=some (Zi (x_.aA.g i0).aJ):=(fj.has aE).part (t:=3) (j:=1) o! qd k! rfl
     exact aF.ret (x_.aA.g i0).aJ (by simp only[kG,f1,aj,ai]) (pk (d) _ _ hh _ hh (dJ<|BC f1<|MM (aO 38 3 x_.a_ br k!)<|CC<|VV LB<|CC<|MM ry<|CC<|ZZ) k!) (bE.refl aI) k!
   · have fP:=of_decide_eq_false f1
     have u8:=fi 3 false true i0 1 o!
     exact aF.round (by simp only[kG,f1,aj,ai]) (pk (d) _ _ hh _ hh (dJ<|BC f1<|VV u8<|CC<|ZZ) k!) (bE.refl aI) _ k! (fun x=>Ec ah x_ bk bx cZ fj g5 dq (i0+1) o! x hh aI aE br)
def il (x_:Task) (ah:Int):Int:=(match (kG x_ ah x_.aA.length 0) with | none=>0 | some yF=>yF)
theorem Z8 {d:Nat} {h:aC} (x_:Task) (ah:Int) (qZ:aR.ok h x_) (ch:Tidy h):cN (d+1) (.fn 142) [(AV.agg [(AV.str x_.name),(Zi x_.takes),x_.aU,x_.a_]),(Zi ah)] h= .ret (Zi (il x_ ah)) h:=by
 obtain ⟨h1,di,cS,jU,bm,bP⟩:=jE ch (aM.cells [(AV.str x_.name),(Zi x_.takes),x_.aU,x_.a_] 40 false)
 have bA:Has h h1:=bP
 have D8:=Ec (d:=d) (h:=h) ah x_ h.nx qZ.1 qZ.2.1 qZ.2.2 qZ x_.aA.length 0 o! (fun k_=>(((AV.agg [(AV.str x_.name),(Zi x_.takes),x_.aU,x_.a_])::(Zi ah)::(Pt h.nx)::AV.undef::(Zi 0)::(Zi 0)::jX 21):List AV).getD k_ AV.undef) h1 cS bA bm
 cases dL:kG x_ ah x_.aA.length 0 with
 | none=>
   obtain ⟨D2,h3,dX,gZ⟩:=aF.n dL D8
   have jg:Has h h3:=bA.trans gZ.a
   have e:il x_ ah=0:=by simp only[il,dL,aj,ai]
   rw[e]
   exact aH rfl (bb Tryz.func142 Pa rfl (.inr rfl) (pk (d) _ _ h _ h3 (NN di (fun i=>(Pt i))<|CN 2<|LL dX<|CC<|ZZ) k!) k!) jg rfl
 | some yF=>
   obtain ⟨D2,h3,dX,gZ⟩:=aF.r dL D8
   have jg:Has h h3:=bA.trans gZ.a
   have e:il x_ ah=yF:=by simp only[il,dL,aj,ai]
   rw[e]
   exact aH rfl (bb Tryz.func142 Pa rfl (.inr rfl) (pk (d) _ _ h _ h3 (NN di (fun i=>(Pt i))<|CN 2<|LL dX<|ZZ) k!) k!) jg rfl
def Ee:Code:=(Tryz.f114.body).getD .skip
theorem Z9:Tryz.f114.body=some Ee:=by kernel_rfl
def RL:Code:=(bw Ee).getD 0 .skip
def g8 (j:cx) (ah:Int) (az:List Bool) (au:List Int) (mqn:Int):Nat→Nat→Int→Int
 | 0,_,pQ=>pQ
 | dq+1,i0,pQ=>(bif (az.g i0) then (bif (decide ((au.g i0)≤mqn)) then (bif (decide (mqn<(IntKind.i64.wrap ((au.g i0)+((j.ab.g i0).takes))))) then g8 j ah az au mqn dq (i0+1) (IntKind.i64.wrap (pQ+(il (j.ab.g i0) ah))) else g8 j ah az au mqn dq (i0+1) pQ) else g8 j ah az au mqn dq (i0+1) pQ) else g8 j ah az au mqn dq (i0+1) pQ)
theorem pj {d:Nat} {h:aC} (aN:AV) (bB:AV) (ah:Int) (mqn:Int) (j:cx) (au:List Int) (az:List Bool) (bk:Nat) (bx:b8 h .i64 3 aN au) (cZ:oh h 4 bB az) (fj:aW h j.aw j.ab) (m5:aW h j.ao j.af) (g5:aR.ok h j) (hF:az.length=j.ab.length) (je:au.length=j.ab.length):∀(k_ i_:Nat) (pQ:Int) (_:i_+k_=j.ab.length) (x:Nat→AV) (hh:aC) (aI:Tidy hh) (aE:Has h hh) (br:hh.get bk=some (aM.cells [j.aw,j.ao] 25 false)),cE (cN (d+1)) RL ⟨((x 0)::aN::bB::(Zi ah)::(Zi mqn)::(Pt bk)::rx x 6 5 ((Zi pQ)::(Zn i_)::rx x 13 44 [])),hh,[],.no⟩ (.exit 0) hh (fun r y=>((y 0)::aN::bB::(Zi ah)::(Zi mqn)::(Pt bk)::rx y 6 5 ((Zi r)::rx y 12 45 []))) (fun r=>True) (g8 j ah az au mqn k_ i_ pQ)
 | 0,i0,pQ,fX,x,hh,aI,aE,br=>by
   have iC:cb (some (.slice 40)) (some j.aw)=some (Zn j.ab.length):=(fj.has aE).len
   have q2:(decide (((i0:Nat):Int)<((j.ab.length:Nat):Int)))=false:=d!
   exact cE.out pQ rfl (pk (d+1) _ _ hh _ hh (CN 2<|MM (aO 22 0 j.aw br k!)<|VV iC<|VV (bL 3 false false .i64 ((i0:Nat):Int) ((j.ab.length:Nat):Int))<|BB q2<|ZZ) k!) (bE.refl aI) trivial k!
 | dq+1,i0,pQ,fX,x,hh,aI,aE,br=>by
   have gT:=bx.small
   have nz:=cZ.small
   have uw:=fj.small
   have RH:=m5.small
   have sU:=aI _ _ br
   have iC:cb (some (.slice 40)) (some j.aw)=some (Zn j.ab.length):=(fj.has aE).len
   have q2:(decide (((i0:Nat):Int)<((j.ab.length:Nat):Int)))=true:=d!
   obtain ⟨p4,q5,lp,_⟩:=(cZ.has aE).elem (i:=i0) o!
   have wJ:bO env (some (.slice 4)) (some bB) (some (Zn i0))=some (AV.ptr p4 q5):=lp
   have tD:bh env hh 4 (AV.ptr p4 q5)=some (AV.bool (az.g i0)):=(cZ.has aE).load o! lp
   have dJ:=fun {al ps} (k:Pk al _ ps)=>(CN 2<|MM (aO 22 0 j.aw br k!)<|VV iC<|VV (bL 3 false false .i64 ((i0:Nat):Int) ((j.ab.length:Nat):Int))<|BB q2<|CN 2<|VV wJ<|MM tD<|CC<|k:Pk _ [] ps)
   rcases Bool.eq_false_or_eq_true (az.g i0) with f1 | f1
   · obtain ⟨p9,Ed,qd,_⟩:=(bx.has aE).elem (i:=i0) o!
     have LB:bO env (some (.slice 3)) (some aN) (some (Zn i0))=some (AV.ptr p9 Ed):=qd
     have ry:bh env hh 3 (AV.ptr p9 Ed)=some (Zi (au.g i0)):=(bx.has aE).load o! qd
     have hX:=fun {al ps} (k:Pk al _ ps)=>(dJ<|BC f1<|BC f1<|BV f1 LB<|BM f1 ry<|BC f1<|BV f1 (vF 3 false false .i64 (au.g i0) mqn)<|VV (sP (decide ((au.g i0)≤mqn)) false f1)<|CC<|k:Pk _ [] ps)
     rcases Bool.eq_false_or_eq_true (decide ((au.g i0)≤mqn)) with f2 | f2
     · have se:=of_decide_eq_true f2
       obtain ⟨Z_,V2,xr,_⟩:=(bx.has aE).elem (i:=i0) o!
       have RN:bO env (some (.slice 3)) (some aN) (some (Zn i0))=some (AV.ptr Z_ V2):=xr
       have EM:bh env hh 3 (AV.ptr Z_ V2)=some (Zi (au.g i0)):=(bx.has aE).load o! xr
       obtain ⟨p18,q19,aeY⟩:=(fj.has aE).elem (i:=i0) o!
       have amK:bO env (some (.slice 40)) (some j.aw) (some (Zn i0))=some (AV.ptr p18 q19):=aeY
       have VB:bh env hh 3 (AV.ptr p18 (q19+1))=some (Zi (j.ab.g i0).takes):=(fj.has aE).part (t:=3) (j:=1) o! aeY k! rfl
       have c21:AV.same 20 j.aw j.aw=true:=(fj.has aE).same 19
       have ow:=fun {al ps} (k:Pk al _ ps)=>(hX<|BC f2<|BC f2<|BC f2<|BV f2 RN<|BM f2 EM<|BC f2<|BM f2 (aO 22 0 j.aw br k!)<|BC f2<|BV f2 amK<|BC f2<|BM f2 VB<|BC f2<|BV f2 (bL 3 false false .i64 mqn (IntKind.i64.wrap ((au.g i0)+((j.ab.g i0).takes))))<|VV (sP (decide (mqn<(IntKind.i64.wrap ((au.g i0)+((j.ab.g i0).takes))))) false f2)<|HH tD<|HH (show AV.same 20 (AV.bool (az.g i0)) (AV.bool (az.g i0))=true from lH 19 _)<|HH ry<|HH (show AV.same 20 (Zi (au.g i0)) (Zi (au.g i0))=true from aS 19 _ _)<|HH EM<|HH (show AV.same 20 (Zi (au.g i0)) (Zi (au.g i0))=true from aS 19 _ _)<|HH (aO 22 0 j.aw br k!)<|HH c21<|HH VB<|HH (show AV.same 20 (Zi (j.ab.g i0).takes) (Zi (j.ab.g i0).takes)=true from aS 19 _ _)<|k:Pk _ [] ps)
       rcases Bool.eq_false_or_eq_true (decide (mqn<(IntKind.i64.wrap ((au.g i0)+((j.ab.g i0).takes))))) with f3 | f3
       · have yG:=of_decide_eq_true f3
         obtain ⟨p24,q25,aeZ⟩:=(fj.has aE).elem (i:=i0) o!
         have amL:bO env (some (.slice 40)) (some j.aw) (some (Zn i0))=some (AV.ptr p24 q25):=aeZ
         have amM:bh env hh 40 (AV.ptr p24 q25)=some (AV.agg [(AV.str (j.ab.g i0).name),(Zi (j.ab.g i0).takes),(j.ab.g i0).aU,(j.ab.g i0).a_]):=(fj.has aE).load o! aeZ
         have k27:=Z8 (d:=d) (j.ab.g i0) ah ((fj.has aE).ok (i:=i0) o!) aI
         have u28:=fi 3 false true i0 1 o!
         exact cE.round (by simp only[g8,f1,f2,f3,aj,ai]) (pk (d+1) _ _ hh _ hh (ow<|BB f3<|CN 2<|MM (aO 22 0 j.aw br k!)<|CC<|VV amL<|MM amM<|CC<|EE k27<|CN 3<|VV u28<|CC<|ZZ) k!) (bE.refl aI) _ k! (fun x=>pj aN bB ah mqn j au az bk bx cZ fj m5 g5 hF je dq (i0+1) (IntKind.i64.wrap (pQ+(il (j.ab.g i0) ah))) o! x hh aI aE br)
       · have yG:=of_decide_eq_false f3
         have u23:=fi 3 false true i0 1 o!
         exact cE.round (by simp only[g8,f1,f2,f3,aj,ai]) (pk (d+1) _ _ hh _ hh (ow<|BC f3<|VV u23<|CC<|ZZ) k!) (bE.refl aI) _ k! (fun x=>pj aN bB ah mqn j au az bk bx cZ fj m5 g5 hF je dq (i0+1) pQ o! x hh aI aE br)
     · have se:=of_decide_eq_false f2
       have Z':=fi 3 false true i0 1 o!
       exact cE.round (by simp only[g8,f1,f2,aj,ai]) (pk (d+1) _ _ hh _ hh (hX<|BB f2<|BB f2<|BB f2<|BB f2<|BB f2<|BB f2<|BB f2<|BB f2<|BB f2<|BB f2<|BB f2<|BB f2<|BV f2 (yB false f2)<|HH tD<|HH (show AV.same 20 (AV.bool (az.g i0)) (AV.bool (az.g i0))=true from lH 19 _)<|HH ry<|HH (show AV.same 20 (Zi (au.g i0)) (Zi (au.g i0))=true from aS 19 _ _)<|FF<|CC<|VV Z'<|CC<|ZZ) k!) (bE.refl aI) _ k! (fun x=>pj aN bB ah mqn j au az bk bx cZ fj m5 g5 hF je dq (i0+1) pQ o! x hh aI aE br)
   · have u8:=fi 3 false true i0 1 o!
     exact cE.round (by simp only[g8,f1,aj,ai]) (pk (d+1) _ _ hh _ hh (dJ<|BB f1<|BB f1<|BB f1<|BB f1<|BB f1<|BV f1 (yB false f1)<|CC<|FF<|FF<|FF<|FF<|FF<|FF<|FF<|FF<|FF<|FF<|FF<|FF<|FF<|CC<|HH tD<|HH (show AV.same 20 (AV.bool (az.g i0)) (AV.bool (az.g i0))=true from lH 19 _)<|FF<|CC<|VV u8<|CC<|ZZ) k!) (bE.refl aI) _ k! (fun x=>pj aN bB ah mqn j au az bk bx cZ fj m5 g5 hF je dq (i0+1) pQ o! x hh aI aE br)
def jJ (j:cx) (au:List Int) (az:List Bool) (ah:Int) (mqn:Int):Int:=(g8 j ah az au mqn j.ab.length 0 0)
theorem Pb {d:Nat} {h:aC} {aN bB:AV} (j:cx) (au:List Int) (az:List Bool) (ah:Int) (mqn:Int) (bV:aR.ok h j) (cL:b8 h .i64 3 aN au) (tc:oh h 4 bB az) (l6:az.length=j.ab.length) (om:au.length=j.ab.length) (ch:Tidy h):cN (d+2) (.fn 114) [(AV.agg [j.aw,j.ao]),aN,bB,(Zi ah),(Zi mqn)] h= .ret (Zi (jJ j au az ah mqn)) h:=by
 obtain ⟨h1,di,cS,jU,bm,bP⟩:=jE ch (aM.cells [j.aw,j.ao] 25 false)
 have bA:Has h h1:=bP
 obtain ⟨D2,h3,dX,gZ,Lq⟩:=pj (d:=d) (h:=h) aN bB ah mqn j au az h.nx cL tc bV.1 bV.2 bV o! o! j.ab.length 0 0 o! (fun k_=>(((AV.agg [j.aw,j.ao])::aN::bB::(Zi ah)::(Zi mqn)::(Pt h.nx)::AV.undef::AV.undef::AV.undef::AV.undef::(Zi 0)::(Zi 0)::(Zi 0)::jX 44):List AV).getD k_ AV.undef) h1 cS bA bm
 have jg:Has h h3:=bA.trans gZ.a
 have e:jJ j au az ah mqn=(g8 j ah az au mqn j.ab.length 0 0):=by simp only[jJ,aj,ai]
 rw[e]
 exact aH rfl (bb Tryz.func114 Z9 rfl (.inr rfl) (pk (d+1) _ _ h _ h3 (NN di (fun i=>(Pt i))<|CN 3<|LL dX<|CN 2<|ZZ) k!) k!) jg rfl
def L4:Code:=(Tryz.f112.body).getD .skip
theorem J6:Tryz.f112.body=some L4:=by kernel_rfl
def d_ (n:Int):Bool:=(bif (decide (0≤n)) then (decide (n≤100000)) else false)
theorem ym {d:Nat} {h:aC} (n:Int) (ch:Tidy h):cN (d+1) (.fn 112) [(Zi n)] h= .ret (AV.bool (d_ n)) h:=by
 rcases Bool.eq_false_or_eq_true (decide (0≤n)) with f0 | f0
 · have e:d_ n=(decide (n≤100000)):=by simp only[d_,f0,aj,ai]
   rw[e]
   exact aH rfl (bb Tryz.func112 J6 rfl (.inr rfl) (pk (d) _ _ h _ h (CN 2<|VV (rv 3 false true .i64 n 0)<|CC<|BC f0<|BV f0 (vF 3 false true .i64 n 100000)<|VV (sP (decide (n≤100000)) false f0)<|CC<|ZZ) k!) k!) (Has.refl _) rfl
 · have e:d_ n=false:=by simp only[d_,f0,aj,ai]
   rw[e]
   exact aH rfl (bb Tryz.func112 J6 rfl (.inr rfl) (pk (d) _ _ h _ h (CN 2<|VV (rv 3 false true .i64 n 0)<|CC<|BB f0<|BV f0 (yB false f0)<|CC<|ZZ) k!) k!) (Has.refl _) rfl
end
end Go.Proofs.aQ
