import Derived.Test.YtogcojohajankaaGreatW0
import Derived.Test.YtogcojohajankaaGreatW1
import Derived.Test.YtogcojohajankaaGreatW5
import Derived.Test.YtogcojohajankaaGreatW3
namespace Go.Proofs.aJ
open Go.Proofs Ab
set_option maxRecDepth 100000
set_option maxHeartbeats 4000000
set_option linter.unusedVariables false
set_option linter.unusedSimpArgs false
theorem mJ {p:Prop} (h:p:=by first | omega | exact fV.1 | (refine ⟨⟨by omega,by omega,fun _=>?_⟩,by omega⟩;first | exact fV.1.2.2 o! | simp_all)):p:=h
noncomputable def rF:Code:=(Tryz.f56.body).getD .skip
theorem Qu:Tryz.f56.body=some rF:=by kernel_rfl
noncomputable def Le:Code:=(bw rF).getD 0 .skip
noncomputable def Lf:Code:=(bw rF).getD 1 .skip
def b6 (aW:List Bool) (j:cG):Nat→Int→Int→Int
 | 0,gY,gI=>gY
 | nH+1,gY,gI=>(bif (decide (0≤gI)) then (bif (!(aW.g gI.toNat)) then (bif (hQ (j.ab.g gI.toNat) aW) then b6 aW j nH gI (gI - 1) else b6 aW j nH gY (gI - 1)) else b6 aW j nH gY (gI - 1)) else gY)
theorem og {d:Nat} {h:aw} (j:cG) (z0:AV) (aW:List Bool) (d_:Nat) (gV:Nat) (db:aM h j.ao j.ab) (ft:aM h j.ai j.af) (oJ:aG.ok h j) (mP:∀i,i<j.ab.length→∀q,q<(j.ab.g i).ax.length→0≤(j.ab.g i).ax.g q∧(j.ab.g i).ax.g q<(j.ab.length:Int)) (qJ:j.ab.length≤100000) (ry:aW.length=j.ab.length):∀(k_:Nat) (gY:Int) (gI:Int) (_:(gI+1≤(k_:Int))) (_:((-1≤gY∧gY<(j.ab.length:Int)∧(0≤gY→aW.g gY.toNat=false))∧gI<(j.ab.length:Int))) (x:Nat→AV) (hh:aw) (aA:Tidy hh) (ay:Has h hh) (cN:hh.get d_=some (aH.cells [j.ao,j.ai] 25 false)) (eh:hh.get gV=some (aH.cells (bs aW) 4 false)),bt (cU (d+1)) Lf ⟨((x 0)::(Pt d_)::(x 2)::(AV.slice gV 0 j.ab.length j.ab.length false)::z0::(Zi gY)::(Zi gI)::rx x 7 37 []),hh,[],.no⟩ (.exit 2) hh (fun r y=>((y 0)::(Pt d_)::(y 2)::(AV.slice gV 0 j.ab.length j.ab.length false)::z0::(Zi r)::rx y 6 38 [])) (fun r=>(-1≤r∧r<(j.ab.length:Int)∧(0≤r→aW.g r.toNat=false))) (b6 aW j k_ gY gI)
 | 0,gY,gI,gq,fV,x,hh,aA,ay,cN,eh=>by
   have ik:=db.small
   have jY:=ft.small
   have tG:=aA _ _ cN
   have FV:=aA _ _ eh
   have q1:(decide (0≤gI))=false:=d!
   exact bt.out gY rfl (pk (d+1) _ _ hh _ hh (CC<|VV (pc 3 false true .i64 gI 0)<|BB q1<|ZZ) k!) (bp.refl aA) (show (-1≤gY∧gY<(j.ab.length:Int)∧(0≤gY→aW.g gY.toNat=false)) from mJ) k!
 | nH+1,gY,gI,gq,fV,x,hh,aA,ay,cN,eh=>by
   have ik:=db.small
   have jY:=ft.small
   have tG:=aA _ _ cN
   have FV:=aA _ _ eh
   have NB:=mP
   have dR:=fun {al ps} (k:Pk al _ ps)=>(CC<|VV (pc 3 false true .i64 gI 0)<|k:Pk _ [] ps)
   rcases Bool.eq_false_or_eq_true (decide (0≤gI)) with f0 | f0
   · have dx:=of_decide_eq_true f0
     have jL:bR env (some (.slice 4)) (some (AV.slice gV 0 j.ab.length j.ab.length false)) (some (Zi gI))=some (AV.ptr gV gI.toNat):=jw k! (show gI.toNat<j.ab.length by omega) o!
     have ld3:aY env hh 4 (AV.ptr gV gI.toNat)=some (AV.bool (aW.g gI.toNat)):=KD k! eh l!
     have hI:=fun {al ps} (k:Pk al _ ps)=>(dR<|BB f0<|CN 2<|VV jL<|MM ld3<|CN 2<|k:Pk _ [] ps)
     rcases Bool.eq_false_or_eq_true (!(aW.g gI.toNat)) with f1 | f1
     · obtain ⟨p6,q7,ain⟩:=(db.has ay).elem (i:=gI.toNat) o!
       have ix5:bR env (some (.slice 39)) (some j.ao) (some (Zi gI))=some (AV.ptr p6 q7):=by rw[show (gI:Int)=((gI.toNat:Nat):Int) by omega];exact ain
       have ld8:aY env hh 39 (AV.ptr p6 q7)=some (AV.agg [(AV.str ((j.ab.g gI.toNat).name)),(Zi ((j.ab.g gI.toNat).takes)),((j.ab.g gI.toNat).aO),((j.ab.g gI.toNat).aS)]):=(db.has ay).load o! ain
       have k9:=Jh (d:=d) (j.ab.g gI.toNat) aW ((db.has ay).ok (i:=gI.toNat) o!) (l7.own (op:=false) (n:=j.ab.length) k! k! eh l! o!) (by first | omega | assumption | (intro q hq;have q_:=NB _ o! q hq;omega)) aA
       have mH:=fun {al ps} (k:Pk al _ ps)=>(hI<|BC f1<|BM f1 (aI 22 0 j.ao cN k!)<|BC f1<|BV f1 ix5<|BM f1 ld8<|BC f1<|BB f1<|EE k9<|VV (pe (hQ (j.ab.g gI.toNat) aW) false f1)<|k:Pk _ [] ps)
       rcases Bool.eq_false_or_eq_true (hQ (j.ab.g gI.toNat) aW) with f2 | f2
       · have w11:IntKind.i64.wrap (gI - 1)=gI - 1:=wrap_i64 o! o!
         exact bt.round (by simp only[b6,f0,f1,f2,cond_true,cond_false]) (pk (d+1) _ _ hh _ hh (mH<|BB f2<|CN 3<|VV (vz 3 false true w11)<|CC<|ZZ) k!) (bp.refl aA) _ k! (fun x=>og j z0 aW d_ gV db ft oJ mP qJ ry nH gI (gI - 1) o! (show ((-1≤gI∧gI<(j.ab.length:Int)∧(0≤gI→aW.g gI.toNat=false))∧(gI - 1)<(j.ab.length:Int)) from mJ) x hh aA ay cN eh)
       · have w11:IntKind.i64.wrap (gI - 1)=gI - 1:=wrap_i64 o! o!
         exact bt.round (by simp only[b6,f0,f1,f2,cond_true,cond_false]) (pk (d+1) _ _ hh _ hh (mH<|BC f2<|VV (vz 3 false true w11)<|CC<|ZZ) k!) (bp.refl aA) _ k! (fun x=>og j z0 aW d_ gV db ft oJ mP qJ ry nH gY (gI - 1) o! (show ((-1≤gY∧gY<(j.ab.length:Int)∧(0≤gY→aW.g gY.toNat=false))∧(gI - 1)<(j.ab.length:Int)) from mJ) x hh aA ay cN eh)
     · have w5:IntKind.i64.wrap (gI - 1)=gI - 1:=wrap_i64 o! o!
       exact bt.round (by simp only[b6,f0,f1,cond_true,cond_false]) (pk (d+1) _ _ hh _ hh (hI<|BB f1<|BB f1<|BB f1<|BB f1<|BB f1<|BB f1<|BV f1 (sS false f1)<|FF<|CC<|VV (vz 3 false true w5)<|CC<|ZZ) k!) (bp.refl aA) _ k! (fun x=>og j z0 aW d_ gV db ft oJ mP qJ ry nH gY (gI - 1) o! (show ((-1≤gY∧gY<(j.ab.length:Int)∧(0≤gY→aW.g gY.toNat=false))∧(gI - 1)<(j.ab.length:Int)) from mJ) x hh aA ay cN eh)
   · have dx:=of_decide_eq_false f0
     exact bt.out gY (by simp only[b6,f0,cond_true,cond_false]) (pk (d+1) _ _ hh _ hh (dR<|BB f0<|ZZ) k!) (bp.refl aA) (show (-1≤gY∧gY<(j.ab.length:Int)∧(0≤gY→aW.g gY.toNat=false)) from mJ) k!
def gN (j:cG):Nat→List Int→List Bool→List Int
 | 0,A4,aW=>default
 | cS+1,A4,aW=>(bif (decide ((b6 aW j ((((j.ab.length:Nat):Int) - 1)+1).toNat (-1) (((j.ab.length:Nat):Int) - 1))<0)) then A4 else gN j cS (A4++[(b6 aW j ((((j.ab.length:Nat):Int) - 1)+1).toNat (-1) (((j.ab.length:Nat):Int) - 1))]) (aW.set (b6 aW j ((((j.ab.length:Nat):Int) - 1)+1).toNat (-1) (((j.ab.length:Nat):Int) - 1)).toNat true))
theorem yg {d:Nat} {h:aw} {gg0:aw} (j:cG) (a_:Nat) (cx:Nat) (bb:aM h j.ao j.ab) (cf:aM h j.ai j.af) (fW:aG.ok h j) (fq:∀i,i<j.ab.length→∀q,q<(j.ab.g i).ax.length→0≤(j.ab.g i).ax.g q∧(j.ab.g i).ax.g q<(j.ab.length:Int)) (hH:j.ab.length≤100000) (ct:Tidy h) (tA:h.nx≤a_) (FX:h.nx≤cx) (qk:cx≠a_) (NG0:h.nx≤gg0.nx) (Ny:a_<gg0.nx) (Xz:cx<gg0.nx):∀(k_:Nat) (A4:List Int) (aW:List Bool) (z0:AV) (_:((nF aW:Nat):Int)+1≤(k_:Int)) (_:(A4.length+nF aW=j.ab.length)) (x:Nat→AV) (hh:aw) (aA:Tidy hh) (ay:Has h hh) (ij:h.nx≤hh.nx) (iS:aW.length=j.ab.length) (bh:hh.get a_=some (aH.cells [j.ao,j.ai] 25 false)) (cV:hh.get cx=some (aH.cells (bs aW) 4 false)) (Se:gK 3 gg0 hh z0 (zs .i64 A4)) (lz0:A4.length≤1000000000) (Df:gg0.nx≤hh.nx),cA (σ:=List Bool) (ρ:=List Int) (cU (d+1)) Le ⟨((x 0)::(Pt a_)::(x 2)::(AV.slice cx 0 j.ab.length j.ab.length false)::z0::rx x 5 39 []),hh,[],.no⟩ (.exit 0) hh (fun r z y=>((y 0)::(Pt a_)::(y 2)::(AV.slice cx 0 j.ab.length j.ab.length false)::rx y 4 40 [])) (fun r z y=>((y 0)::(Pt a_)::z::(AV.slice cx 0 j.ab.length j.ab.length false)::rx y 4 40 [])) (fun r z hk=>True) (fun r z hk=>Has h hk∧gK 3 gg0 hk z (zs .i64 r)∧r.length≤1000000000) (Sum.inr (gN j k_ A4 aW))
 | 0,A4,aW,z0,gq,fV,x,hh,aA,ay,ij,iS,bh,cV,Se,lz0,Df=>by
   exfalso;omega
 | cS+1,A4,aW,z0,gq,fV,x,hh,aA,ay,ij,iS,bh,cV,Se,lz0,Df=>by
   have cr:=bb.small
   have eQ:=cf.small
   have ji:=aA _ _ bh
   have vR:=aA _ _ cV
   have NB:=fq
   have gL:cc (some (.slice 39)) (some j.ao)=some (Zn j.ab.length):=bb.len
   have w2:IntKind.i64.wrap (((j.ab.length:Nat):Int) - 1)=((j.ab.length:Nat):Int) - 1:=wrap_i64 o! o!
   obtain ⟨yl3,h4,nX,fA,tM⟩:=og (d:=d) (h:=h) j z0 aW a_ cx bb cf fW NB o! o! ((((j.ab.length:Nat):Int) - 1)+1).toNat (-1) (((j.ab.length:Nat):Int) - 1) o! (show ((-1≤(-1)∧(-1)<(j.ab.length:Int)∧(0≤(-1)→aW.g (-1).toNat=false))∧(((j.ab.length:Nat):Int) - 1)<(j.ab.length:Int)) from mJ) (fun k_=>(((x 0)::(Pt a_)::(x 2)::(AV.slice cx 0 j.ab.length j.ab.length false)::z0::(Zi (-1))::(Zi (((j.ab.length:Nat):Int) - 1))::rx x 7 4 ((Pt a_)::j.ao::(Zn j.ab.length)::(Zi (((j.ab.length:Nat):Int) - 1))::rx x 15 29 [])):List AV).getD k_ AV.undef) hh aA ay bh cV
   have nW:=fA.y
   have NI:hh.nx≤h4.nx:=fA.n
   have nJ:Has h h4:=ay.trans fA.a
   have SC:Has hh h4:=fA.a
   have vc:=fun {al ps} (k:Pk al _ ps)=>(CN 2<|MM (aI 22 0 j.ao bh k!)<|VV gL<|VV (vz 3 false true w2)<|CC<|LL nX<|CC<|VV (bO 3 false true .i64 (b6 aW j ((((j.ab.length:Nat):Int) - 1)+1).toNat (-1) (((j.ab.length:Nat):Int) - 1)) 0)<|k:Pk _ [] ps)
   rcases Bool.eq_false_or_eq_true (decide ((b6 aW j ((((j.ab.length:Nat):Int) - 1)+1).toNat (-1) (((j.ab.length:Nat):Int) - 1))<0)) with f0 | f0
   · have dx:=of_decide_eq_true f0
     exact cA.ret A4 z0 (congrArg Sum.inr (by simp only[gN,f0,cond_true,cond_false])) (pk (d+1) _ _ hh _ h4 (vc<|BB f0<|CN 2<|ZZ) k!) nW o! ⟨nJ,(Se.has SC),(by first | omega | (simp<;>omega))⟩ k!
   · have dx:=of_decide_eq_false f0
     have KN:bR env (some (.slice 4)) (some (AV.slice cx 0 j.ab.length j.ab.length false)) (some (Zi (b6 aW j ((((j.ab.length:Nat):Int) - 1)+1).toNat (-1) (((j.ab.length:Nat):Int) - 1))))=some (AV.ptr cx (b6 aW j ((((j.ab.length:Nat):Int) - 1)+1).toNat (-1) (((j.ab.length:Nat):Int) - 1)).toNat):=jw k! (show (b6 aW j ((((j.ab.length:Nat):Int) - 1)+1).toNat (-1) (((j.ab.length:Nat):Int) - 1)).toNat<j.ab.length by omega) o!
     obtain ⟨h7,afj⟩:∃KY:aw,KY=h4.put cx (some (aH.cells (bs (aW.set (b6 aW j ((((j.ab.length:Nat):Int) - 1)+1).toNat (-1) (((j.ab.length:Nat):Int) - 1)).toNat true)) 4 false)):=⟨_,rfl⟩
     have m8:dW env h4 4 (AV.ptr cx (b6 aW j ((((j.ab.length:Nat):Int) - 1)+1).toNat (-1) (((j.ab.length:Nat):Int) - 1)).toNat) (AV.bool true)=some h7:=by rw[afj];exact r7 k! (fA.a _ _ cV) l!
     have Yi:KA h4 h7 cx (aH.cells (bs (aW.set (b6 aW j ((((j.ab.length:Nat):Int) - 1)+1).toNat (-1) (((j.ab.length:Nat):Int) - 1)).toNat true)) 4 false):=by rw[afj];exact kE nW (fA.a _ _ cV)
     have eO:=Yi.1
     have xA:h7.nx=h4.nx:=by rw[afj];rfl
     have du:Has h h7:=Yi.has nJ ct o!
     obtain ⟨h8,aeS,ql,aeT,kV,Cf⟩:=kh eO (aH.cells [(Zi (b6 aW j ((((j.ab.length:Nat):Int) - 1)+1).toNat (-1) (((j.ab.length:Nat):Int) - 1)))] 3 false)
     have oK:Has h h8:=du.trans Cf
     have abV:Has h7 h8:=Cf
     obtain ⟨z10,h9,aio,pF,KQ,afk,akT⟩:=gK.abl (k:= .i64) (g:=gg0) (tys:= #[26,26]) (v:=(b6 aW j ((((j.ab.length:Nat):Int) - 1)+1).toNat (-1) (((j.ab.length:Nat):Int) - 1))) (L:=A4) ql o! (((Se.has SC).chg Yi o!).has abV) kV (by first | omega | (simp<;>omega)) rfl rfl k! k! k! (bytes:=8) k! (z0:=Zi 0) k! rfl (by decide)
     have my:Has h h9:=Has.PS oK ct o! afk
     exact cA.round (congrArg Sum.inr (by simp only[gN,f0,cond_true,cond_false])) (pk (d+1) _ _ hh _ h9 (vc<|BB f0<|CN 2<|VV KN<|SS m8<|CN 2<|NN aeS (fun i=>(AV.slice i 0 1 1 false))<|PP (show di env h8 #[26,26] z0 (AV.slice h7.nx 0 1 1 false)=some (z10,h9) from aio)<|CC<|ZZ) k!) o! _ k! (fun x=>yg j a_ cx bb cf fW fq hH ct tA FX qk NG0 Ny Xz cS (A4++[(b6 aW j ((((j.ab.length:Nat):Int) - 1)+1).toNat (-1) (((j.ab.length:Nat):Int) - 1))]) (aW.set (b6 aW j ((((j.ab.length:Nat):Int) - 1)+1).toNat (-1) (((j.ab.length:Nat):Int) - 1)).toNat true) z10 (by have e_:=P_ o! o! (tM.2.2 o!);first | omega | (simp only[List.length_append,List.length_cons,List.length_nil];omega)) (show ((A4++[(b6 aW j ((((j.ab.length:Nat):Int) - 1)+1).toNat (-1) (((j.ab.length:Nat):Int) - 1))]).length+nF (aW.set (b6 aW j ((((j.ab.length:Nat):Int) - 1)+1).toNat (-1) (((j.ab.length:Nat):Int) - 1)).toNat true)=j.ab.length) from (by have e_:=P_ o! o! (tM.2.2 o!);first | omega | (simp only[List.length_append,List.length_cons,List.length_nil];omega))) x h9 pF my o! l! (afk _ _ o! (Cf _ _ (Yi.2.2 _ _ o! (fA.a _ _ bh)))) (afk _ _ o! (Cf _ _ Yi.2.1)) akT (by first | omega | (simp<;>omega)) o!)
def gr (j:cG):List Int:=(gN j (((nF (List.replicate j.ab.length false):Nat):Int)+1).toNat ([]) (List.replicate j.ab.length false))
theorem Qv {d:Nat} {h:aw} (j:cG) (bZ:aG.ok h j) (nE:∀i,i<j.ab.length→∀q,q<(j.ab.g i).ax.length→0≤(j.ab.g i).ax.g q∧(j.ab.g i).ax.g q<(j.ab.length:Int)) (qI:j.ab.length≤100000) (ct:Tidy h):∃z hk,cU (d+2) (.fn 56) [(AV.agg [j.ao,j.ai])] h= .ret z hk∧bp h hk∧bS hk .i64 3 z (gr j)∧gK 3 h hk z (zs .i64 (gr j)):=by
 have eT:=bZ.1.small
 have eU:=bZ.2.small
 obtain ⟨h1,dH,cP,kr,bk,bW⟩:=kh ct (aH.cells [j.ao,j.ai] 25 false)
 have bB:Has h h1:=bW
 have K5:cc (some (.slice 39)) (some j.ao)=some (Zn j.ab.length):=bZ.1.len
 have mk3:vI env (some (.slice 4)) (some (Zn j.ab.length)) (some (Zn j.ab.length))=some (aH.cells (bP [(AV.bool false)] j.ab.length) 4 false,fun i=>AV.slice i 0 j.ab.length j.ab.length false):=mF (bytes:=1) (z:=(AV.bool false)) k! k! k! rfl (by decide) o!
 obtain ⟨h4,Ul,nW,ah7,XN,HS⟩:=kh cP (aH.cells (bP [(AV.bool false)] j.ab.length) 4 false)
 have nJ:Has h h4:=bB.trans HS
 have Yj:h4.get h1.nx=some (aH.cells (bs (List.replicate j.ab.length false)) 4 false):=by have q:=XN;rw[yP] at q;exact q
 obtain ⟨zo7,yl5,h6,v3,kM,abS,X6,Qo,afd⟩:=cA.r rfl (yg (d:=d) (h:=h) (gg0:=h4) j h.nx h1.nx bZ.1 bZ.2 bZ nE o! ct o! o! o! o! o! o! (((nF (List.replicate j.ab.length false):Nat):Int)+1).toNat ([]) (List.replicate j.ab.length false) AV.aD o! (show (([]).length+nF (List.replicate j.ab.length false)=j.ab.length) from (by rw[tR];simp)) (fun k_=>(((AV.agg [j.ao,j.ai])::(Pt h.nx)::AV.aD::(AV.slice h1.nx 0 j.ab.length j.ab.length false)::AV.aD::AV.undef::AV.undef::(Pt h.nx)::j.ao::(Zn j.ab.length)::(AV.slice h1.nx 0 j.ab.length j.ab.length false)::lk 33):List AV).getD k_ AV.undef) h4 nW nJ o! l! (HS _ _ bk) Yj (.inl ⟨rfl,rfl⟩) (Nat.zero_le _) o!)
 have jA:Has h h6:=X6
 have e:gr j=(gN j (((nF (List.replicate j.ab.length false):Nat):Int)+1).toNat ([]) (List.replicate j.ab.length false)):=by simp only[gr,cond_true,cond_false]
 rw[e]
 have oz:=gK.le (h0:=h) Qo o!
 exact ⟨zo7,eu rfl (aZ Tryz.func56 Qu rfl (.inr rfl) (pk (d+1) _ _ h _ h6 (NN dH (fun i=>(Pt i))<|CN 2<|MM (aI 22 0 j.ao bk k!)<|VV K5<|KK mk3 Ul<|CN 2<|LL v3<|ZZ) k!) k!) ct ⟨kM,jA,by omega⟩ (P:=fun hh=>bS hh .i64 3 zo7 (gN j (((nF (List.replicate j.ab.length false):Nat):Int)+1).toNat ([]) (List.replicate j.ab.length false))∧gK 3 h hh zo7 (zs .i64 (gN j (((nF (List.replicate j.ab.length false):Nat):Int)+1).toNat ([]) (List.replicate j.ab.length false)))) ⟨oz.zs o! k! k!,oz⟩ fun v=>⟨oz.W8 v k! k!,oz.Xa v⟩⟩
theorem Ji {x:Task} {p:List Bool}:∀k i,kY x p k i=bif anyI (fun n=> !(p.g (Int.toNat (x.ax.g n)))) k i then some false else none
 | 0,i=>rfl
 | k+1,i=>by
   rw[kY,anyI,Ji k (i+1)]
   cases p.g (Int.toNat (x.ax.g i))<;>rfl
theorem N5 (x:Task) (p:List Bool):hQ x p= !(anyI (fun n=> !(p.g (Int.toNat (x.ax.g n)))) x.ax.length 0):=by
 rw[hQ,Ji]
 cases anyI (fun n=> !(p.g (Int.toNat (x.ax.g n)))) x.ax.length 0<;>rfl
theorem SD {s:List Int} {P:Nat→Bool}:∀k i,(gH s P k i=none∧anyI P k i=false)∨∃n:Nat,gH s P k i=some (n:Int)∧anyI P k i=true
 | 0,i=> .inl ⟨rfl,rfl⟩
 | k+1,i=>by
   rw[gH,anyI]
   cases h:P i with
   | true=>exact .inr ⟨i,rfl,rfl⟩
   | false=>exact SD k (i+1)
theorem abW (s:List Int) (P:Nat→Bool):hX s P=anyI P s.length 0:=by
 rw[hX,j1]
 rcases SD (s:=s) (P:=P) s.length 0 with ⟨e,f⟩ | ⟨n,e,f⟩
 · rw[e,f];rfl
 · rw[e,f];exact decide_eq_true (Int.natCast_nonneg n)
def Jj (ts:List Task) (p:List Bool) (i:Nat):Bool:= !(p.g i)&&hQ (ts.g i) p
theorem Jk (ts:List Task) (p:List Bool) (t:Int):kX ts p t=Jj ts p (Int.toNat t):=by
 rw[kX,Jj,abW,N5]
 cases p.g (Int.toNat t)<;>rfl
def il (P:Nat→Bool):Nat→Nat→Option Nat
 | 0,_=>none
 | k+1,i=>bif P i then some i else il P k (i+1)
theorem qW {P:Nat→Bool}:∀{k i m:Nat},il P k i=some m→P m=true∧i≤m∧m<i+k
 | 0,i,m,h=>by cases h
 | k+1,i,m,h=>by
   rw[il] at h
   cases e:P i with
   | true=>rw[e] at h;cases h;exact ⟨e,Nat.le_refl _,by omega⟩
   | false=>
     rw[e] at h
     have:=qW (k:=k) h
     exact ⟨this.1,by omega,by omega⟩
theorem wg {P:Nat→Bool}:∀(k i:Nat),il P (k+1) i=match il P k i with | some q=>some q | none=>bif P (i+k) then some (i+k) else none
 | 0,i=>by rw[il,il];rfl
 | k+1,i=>by
   rw[il,wg k (i+1),il]
   cases P i with
   | true=>rfl
   | false=>
     rw[cond_false,cond_false,show i+1+k=i+(k+1) by omega]
theorem Cv {a:List Bool} {j:cG}:∀(m kq:Nat) (v:Int),m≤kq→b6 a j kq v ((m:Int) - 1)=match il (Jj j.ab a) m 0 with | some q=>(q:Int) | none=>v
 | 0,kq,v,h=>by
   cases kq with
   | zero=>rw[b6];rfl
   | succ kq=>rw[b6,decide_eq_false (by omega:¬(0:Int)≤((0:Nat):Int) - 1)];rfl
 | m+1,0,v,h=>by omega
 | m+1,kq+1,v,h=>by
   rw[b6,decide_eq_true (by omega:(0:Int)≤((m+1:Nat):Int) - 1),cond_true,show ((m+1:Nat):Int) - 1=((m:Nat):Int) by omega,Int.toNat_natCast,Cv m kq _ o!,Cv m kq _ o!,wg,Nat.zero_add]
   have e:Jj j.ab a m=(!(a.g m)&&hQ (j.ab.g m) a):=rfl
   rw[e]
   cases a.g m<;>cases hQ (j.ab.g m) a<;>cases il (Jj j.ab a) m 0<;>rfl
def Ve (ts:List Task) (x:List Int×List Bool):List Int×List Bool:=match il (Jj ts x.2) ts.length 0 with | some q=>(x.1++[(q:Int)],x.2.set q true) | none=>x
def DV (ts:List Task):Nat→List Int×List Bool→List Int×List Bool
 | 0,x=>x
 | k+1,x=>DV ts k (Ve ts x)
theorem Yk {order:List Int} {ts:List Task} (ho:∀i,i<ts.length→order.g i=(i:Int)):∀(k i:Nat) (v:List Int) (a:List Bool),i+k=ts.length→cm order ts k i v a=match il (Jj ts a) k i with | some q=>(v++[(q:Int)],a.set q true) | none=>(v,a)
 | 0,i,v,a,h=>rfl
 | k+1,i,v,a,h=>by
   rw[cm,il,Jk,ho i o!,Int.toNat_natCast,Yk ho k (i+1) v a o!]
   cases Jj ts a i<;>rfl
theorem Yl {order:List Int} {ts:List Task} (ho:∀i,i<ts.length→order.g i=(i:Int)) (hl:order.length=ts.length):∀(k i:Nat) (v:List Int) (a:List Bool),cT order ts k i v a=DV ts k (v,a)
 | 0,i,v,a=>rfl
 | k+1,i,v,a=>by
   rw[cT,Yl ho hl k (i+1),DV,hl,Yk ho _ _ _ _ o!,Ve]
theorem Ym {ts:List Task}:∀(k i:Nat) (a:List Int),a.length=ts.length→i+k=ts.length→(∀q,q<i→a.g q=(q:Int))→(fT ts k i a).length=ts.length∧∀q,q<ts.length→(fT ts k i a).g q=(q:Int)
 | 0,i,a,hl,h,hq=>⟨hl,fun q hq'=>hq q o!⟩
 | k+1,i,a,hl,h,hq=>by
   rw[fT]
   refine Ym k (i+1) _ (by rw[List.length_set];exact hl) o! fun q hq'=>?_
   by_cases e:q=i
   · subst e;exact iL o!
   · rw[bj (Ne.symm e)];exact hq q o!
theorem GG (ts:List Task):eX ts=(DV ts ts.length ([],List.replicate ts.length false)).1:=by
 obtain ⟨h1,h2⟩:=Ym (ts:=ts) ts.length 0 (List.replicate ts.length 0) (by rw[List.length_replicate]) o! fun q h=>by omega
 rw[eX,aF,Yl h2 h1,h1];rfl
theorem abX (ts:List Task) (x:List Int×List Bool):(Ve ts x).2.length=x.2.length:=by
 rw[Ve];cases il (Jj ts x.2) ts.length 0 with
 | none=>rfl
 | some q=>exact List.length_set ..
theorem Yn {ts:List Task} {a:List Bool} {m:Nat} (h:Jj ts a m=true):a.g m=false∧hQ (ts.g m) a=true:=by
 rw[Jj] at h
 cases e:a.g m with
 | true=>rw[e] at h;cases h
 | false=>rw[e] at h;exact ⟨rfl,h⟩
theorem Us (ts:List Task) (x:List Int×List Bool) (hl:x.2.length=ts.length):(Ve ts x).1.length+nF (Ve ts x).2=x.1.length+nF x.2:=by
 rw[Ve]
 cases e:il (Jj ts x.2) ts.length 0 with
 | none=>rfl
 | some q=>
   have f:=qW e
   have:=Gh (l:=x.2) (n:=q) o! (Yn f.1).1
   show (x.1++[(q:Int)]).length+nF (x.2.set q true)=_
   rw[List.length_append,List.length_singleton];omega
theorem GH (ts:List Task):∀(k:Nat) (x:List Int×List Bool),x.2.length=ts.length→(DV ts k x).1.length+nF (DV ts k x).2=x.1.length+nF x.2∧(DV ts k x).2.length=ts.length
 | 0,x,hl=>⟨rfl,hl⟩
 | k+1,x,hl=>by
   rw[DV]
   have h:=GH ts k (Ve ts x) (by rw[abX];exact hl)
   rw[Us ts x hl] at h
   exact h
theorem N6 {ts:List Task} {x:List Int×List Bool} (h:il (Jj ts x.2) ts.length 0=none):∀k,DV ts k x=x
 | 0=>rfl
 | k+1=>by
   have:Ve ts x=x:=by rw[Ve,h]
   rw[DV,this,N6 h k]
theorem Jl {j:cG}:∀(k kq:Nat) (v:List Int) (a:List Bool),a.length=j.ab.length→nF a≤k→nF a+1≤kq→gN j kq v a=(DV j.ab k (v,a)).1
 | k,0,v,a,hl,h1,h2=>by omega
 | k,kq+1,v,a,hl,h1,h2=>by
   rw[gN,show Int.toNat ((((j.ab.length:Nat):Int) - 1)+1)=j.ab.length by omega,Cv _ _ _ (Nat.le_refl _)]
   cases e:il (Jj j.ab a) j.ab.length 0 with
   | none=>
     rw[N6 (x:=(v,a)) e]
     rfl
   | some q=>
     have f:=qW e
     have g:=Yn f.1
     have c:=Gh (l:=a) (n:=q) o! g.1
     match k,h1 with
     | 0,h1=>omega
     | k+1,h1=>
       have s:Ve j.ab (v,a)=(v++[(q:Int)],a.set q true):=by rw[Ve,e]
       rw[DV,s]
       show (bif decide ((q:Int)<0) then v else gN j kq (v++[(q:Int)]) (a.set (Int.toNat (q:Int)) true))=_
       rw[decide_eq_false (by omega:¬(q:Int)<0),cond_false,Int.toNat_natCast]
       exact Jl k kq _ _ (by rw[List.length_set];exact hl) o! o!
theorem Jm (j:cG):eX j.ab=gr j:=by
 rw[GG,gr,tR]
 exact (Jl _ _ _ _ (by rw[List.length_replicate]) (by rw[tR];exact Nat.le_refl _) (by rw[tR];omega)).symm
theorem Ut (j:cG):(gr j).length≤j.ab.length:=by
 rw[←Jm,GG]
 have:=(GH j.ab j.ab.length ([],List.replicate j.ab.length false) (by rw[List.length_replicate])).1
 rw[tR] at this
 have e:(([],List.replicate j.ab.length false):List Int×List Bool).1.length=0:=rfl
 omega
noncomputable def Dk:Code:=(Tryz.f160.body).getD .skip
theorem N7:Tryz.f160.body=some Dk:=by kernel_rfl
noncomputable def Qw:Code:=(bw Dk).getD 0 .skip
def km (x_:Task) (ah:Int):Nat→Nat→Option (Int)
 | 0,_=>none
 | cS+1,i0=>(bif (decide (((x_.au.g i0).ah)=ah)) then some ((x_.au.g i0).aB) else km x_ ah cS (i0+1))
theorem Dl {d:Nat} {h:aw} (ah:Int) (x_:Task) (a_:Nat) (bb:x_.name.length<2^60) (cf:bS h .i64 3 x_.aO x_.ax) (dc:aM h x_.aS x_.au) (fW:aG.ok h x_):∀(k_ i_:Nat) (_:i_+k_=x_.au.length) (x:Nat→AV) (hh:aw) (aA:Tidy hh) (ay:Has h hh) (bh:hh.get a_=some (aH.cells [(AV.str x_.name),(Zi x_.takes),x_.aO,x_.aS] 39 false)),aC (cU (d)) Qw ⟨((x 0)::(Zi ah)::(Pt a_)::(x 3)::(x 4)::(Zn i_)::rx x 6 21 []),hh,[],.no⟩ (.exit 0) hh (fun y=>((y 0)::(Zi ah)::(Pt a_)::rx y 3 24 [])) (fun r y=>((y 0)::(Zi ah)::(Pt a_)::(y 3)::(Zi r)::rx y 5 22 [])) (km x_ ah k_ i_)
 | 0,i0,gq,x,hh,aA,ay,bh=>by
   have eQ:=cf.small
   have jD:=dc.small
   have ji:=aA _ _ bh
   have gL:cc (some (.slice 80)) (some x_.aS)=some (Zn x_.au.length):=(dc.has ay).len
   have q2:(decide (((i0:Nat):Int)<((x_.au.length:Nat):Int)))=false:=d!
   exact aC.out rfl (pk (d) _ _ hh _ hh (CN 2<|MM (aI 37 3 x_.aS bh k!)<|VV gL<|VV (bO 3 false false .i64 ((i0:Nat):Int) ((x_.au.length:Nat):Int))<|BB q2<|ZZ) k!) (bp.refl aA) k!
 | cS+1,i0,gq,x,hh,aA,ay,bh=>by
   have eQ:=cf.small
   have jD:=dc.small
   have ji:=aA _ _ bh
   have gL:cc (some (.slice 80)) (some x_.aS)=some (Zn x_.au.length):=(dc.has ay).len
   have q2:(decide (((i0:Nat):Int)<((x_.au.length:Nat):Int)))=true:=d!
   obtain ⟨p4,q5,jE⟩:=(dc.has ay).elem (i:=i0) o!
   have vP:bR env (some (.slice 80)) (some x_.aS) (some (Zn i0))=some (AV.ptr p4 q5):=jE
   have rC:aY env hh 3 (AV.ptr p4 (q5+0))=some (Zi ((x_.au.g i0).ah)):=(dc.has ay).part (t:=3) (j:=0) o! jE k! rfl
   have dR:=fun {al ps} (k:Pk al _ ps)=>(CN 2<|MM (aI 37 3 x_.aS bh k!)<|VV gL<|VV (bO 3 false false .i64 ((i0:Nat):Int) ((x_.au.length:Nat):Int))<|BC q2<|MM (aI 37 3 x_.aS bh k!)<|CC<|VV vP<|CC<|MM rC<|CC<|VV (xy 3 false false .i64 ((x_.au.g i0).ah) ah)<|k:Pk _ [] ps)
   rcases Bool.eq_false_or_eq_true (decide (((x_.au.g i0).ah)=ah)) with f1 | f1
   · have dQ:=of_decide_eq_true f1
     obtain ⟨p9,Dm,pI⟩:=(dc.has ay).elem (i:=i0) o!
     have HR:bR env (some (.slice 80)) (some x_.aS) (some (Zn i0))=some (AV.ptr p9 Dm):=pI
     have qK:aY env hh 3 (AV.ptr p9 (Dm+1))=some (Zi ((x_.au.g i0).aB)):=(dc.has ay).part (t:=3) (j:=1) o! pI k! rfl
     exact aC.ret ((x_.au.g i0).aB) (by simp only[km,f1,cond_true,cond_false]) (pk (d) _ _ hh _ hh (dR<|BC f1<|MM (aI 37 3 x_.aS bh k!)<|CC<|VV HR<|CC<|MM qK<|CC<|ZZ) k!) (bp.refl aA) k!
   · have dQ:=of_decide_eq_false f1
     have u8:=dZ 3 false true i0 1 o!
     exact aC.round (by simp only[km,f1,cond_true,cond_false]) (pk (d) _ _ hh _ hh (dR<|BC f1<|VV u8<|CC<|ZZ) k!) (bp.refl aA) _ k! (fun x=>Dl ah x_ a_ bb cf dc fW cS (i0+1) o! x hh aA ay bh)
def hS (x_:Task) (ah:Int):Int:=(match (km x_ ah x_.au.length 0) with | none=>0 | some xC=>xC)
theorem Yo {d:Nat} {h:aw} (x_:Task) (ah:Int) (n6:aG.ok h x_) (ct:Tidy h):cU (d+1) (.fn 160) [(AV.agg [(AV.str x_.name),(Zi x_.takes),x_.aO,x_.aS]),(Zi ah)] h= .ret (Zi (hS x_ ah)) h:=by
 have GF:=n6.2.2.small
 obtain ⟨h1,dH,cP,kr,bk,bW⟩:=kh ct (aH.cells [(AV.str x_.name),(Zi x_.takes),x_.aO,x_.aS] 39 false)
 have bB:Has h h1:=bW
 have Di:=Dl (d:=d) (h:=h) ah x_ h.nx n6.1 n6.2.1 n6.2.2 n6 x_.au.length 0 o! (fun k_=>(((AV.agg [(AV.str x_.name),(Zi x_.takes),x_.aO,x_.aS])::(Zi ah)::(Pt h.nx)::AV.undef::(Zi 0)::(Zi 0)::lk 21):List AV).getD k_ AV.undef) h1 cP bB bk
 cases dz:km x_ ah x_.au.length 0 with
 | none=>
   obtain ⟨Cb,h3,dy,dt⟩:=aC.n dz Di
   have l9:=dt.y
   have tz:h1.nx≤h3.nx:=dt.n
   have iy:Has h h3:=bB.trans dt.a
   have e:hS x_ ah=0:=by simp only[hS,dz,cond_true,cond_false]
   rw[e]
   exact aE rfl (aZ Tryz.func160 N7 rfl (.inr rfl) (pk (d) _ _ h _ h3 (NN dH (fun i=>(Pt i))<|CN 2<|LL dy<|CC<|ZZ) k!) k!) iy rfl
 | some xC=>
   obtain ⟨Cb,h3,dy,dt⟩:=aC.r dz Di
   have l9:=dt.y
   have tz:h1.nx≤h3.nx:=dt.n
   have iy:Has h h3:=bB.trans dt.a
   have e:hS x_ ah=xC:=by simp only[hS,dz,cond_true,cond_false]
   rw[e]
   exact aE rfl (aZ Tryz.func160 N7 rfl (.inr rfl) (pk (d) _ _ h _ h3 (NN dH (fun i=>(Pt i))<|CN 2<|LL dy<|ZZ) k!) k!) iy rfl
noncomputable def Dn:Code:=(Tryz.f143.body).getD .skip
theorem Yp:Tryz.f143.body=some Dn:=by kernel_rfl
noncomputable def Qx:Code:=(bw Dn).getD 0 .skip
def gR (j:cG) (ah:Int) (aj:List Bool) (ar:List Int) (minute:Int):Nat→Nat→Int→Int
 | 0,_,fh=>fh
 | cS+1,i0,fh=>(bif (aj.g i0) then (bif (decide ((ar.g i0)≤minute)) then (bif (decide (minute<(IntKind.i64.wrap ((ar.g i0)+((j.ab.g i0).takes))))) then gR j ah aj ar minute cS (i0+1) (IntKind.i64.wrap (fh+(hS (j.ab.g i0) ah))) else gR j ah aj ar minute cS (i0+1) fh) else gR j ah aj ar minute cS (i0+1) fh) else gR j ah aj ar minute cS (i0+1) fh)
theorem oS {d:Nat} {h:aw} (aX:AV) (aU:AV) (ah:Int) (minute:Int) (j:cG) (ar:List Int) (aj:List Bool) (a_:Nat) (bb:bS h .i64 3 aX ar) (cf:l7 h 4 aU aj) (dc:aM h j.ao j.ab) (iU:aM h j.ai j.af) (fW:aG.ok h j) (fq:aj.length=j.ab.length) (hH:ar.length=j.ab.length):∀(k_ i_:Nat) (fh:Int) (_:i_+k_=j.ab.length) (x:Nat→AV) (hh:aw) (aA:Tidy hh) (ay:Has h hh) (bh:hh.get a_=some (aH.cells [j.ao,j.ai] 25 false)),bt (cU (d+1)) Qx ⟨((x 0)::aX::aU::(Zi ah)::(Zi minute)::(Pt a_)::rx x 6 5 ((Zi fh)::(Zn i_)::rx x 13 44 [])),hh,[],.no⟩ (.exit 0) hh (fun r y=>((y 0)::aX::aU::(Zi ah)::(Zi minute)::(Pt a_)::rx y 6 5 ((Zi r)::rx y 12 45 []))) (fun r=>True) (gR j ah aj ar minute k_ i_ fh)
 | 0,i0,fh,gq,x,hh,aA,ay,bh=>by
   have cr:=bb.small
   have eQ:=cf.small
   have jD:=dc.small
   have tW:=iU.small
   have ji:=aA _ _ bh
   have gL:cc (some (.slice 39)) (some j.ao)=some (Zn j.ab.length):=(dc.has ay).len
   have q2:(decide (((i0:Nat):Int)<((j.ab.length:Nat):Int)))=false:=d!
   exact bt.out fh rfl (pk (d+1) _ _ hh _ hh (CN 2<|MM (aI 22 0 j.ao bh k!)<|VV gL<|VV (bO 3 false false .i64 ((i0:Nat):Int) ((j.ab.length:Nat):Int))<|BB q2<|ZZ) k!) (bp.refl aA) trivial k!
 | cS+1,i0,fh,gq,x,hh,aA,ay,bh=>by
   have cr:=bb.small
   have eQ:=cf.small
   have jD:=dc.small
   have tW:=iU.small
   have ji:=aA _ _ bh
   have gL:cc (some (.slice 39)) (some j.ao)=some (Zn j.ab.length):=(dc.has ay).len
   have q2:(decide (((i0:Nat):Int)<((j.ab.length:Nat):Int)))=true:=d!
   obtain ⟨p4,q5,jE,_⟩:=(cf.has ay).elem (i:=i0) o!
   have vP:bR env (some (.slice 4)) (some aU) (some (Zn i0))=some (AV.ptr p4 q5):=jE
   have rC:aY env hh 4 (AV.ptr p4 q5)=some (AV.bool (aj.g i0)):=(cf.has ay).load o! jE
   have dR:=fun {al ps} (k:Pk al _ ps)=>(CN 2<|MM (aI 22 0 j.ao bh k!)<|VV gL<|VV (bO 3 false false .i64 ((i0:Nat):Int) ((j.ab.length:Nat):Int))<|BB q2<|CN 2<|VV vP<|MM rC<|CC<|k:Pk _ [] ps)
   rcases Bool.eq_false_or_eq_true (aj.g i0) with f1 | f1
   · obtain ⟨p9,Dm,pI,_⟩:=(bb.has ay).elem (i:=i0) o!
     have HR:bR env (some (.slice 3)) (some aX) (some (Zn i0))=some (AV.ptr p9 Dm):=pI
     have qK:aY env hh 3 (AV.ptr p9 Dm)=some (Zi (ar.g i0)):=(bb.has ay).load o! pI
     have hI:=fun {al ps} (k:Pk al _ ps)=>(dR<|BC f1<|BC f1<|BV f1 HR<|BM f1 qK<|BC f1<|BV f1 (uW 3 false false .i64 (ar.g i0) minute)<|VV (pe (decide ((ar.g i0)≤minute)) false f1)<|CC<|k:Pk _ [] ps)
     rcases Bool.eq_false_or_eq_true (decide ((ar.g i0)≤minute)) with f2 | f2
     · have jZ:=of_decide_eq_true f2
       obtain ⟨p14,Z6,Dp,_⟩:=(bb.has ay).elem (i:=i0) o!
       have Yq:bR env (some (.slice 3)) (some aX) (some (Zn i0))=some (AV.ptr p14 Z6):=Dp
       have H':aY env hh 3 (AV.ptr p14 Z6)=some (Zi (ar.g i0)):=(bb.has ay).load o! Dp
       obtain ⟨p18,q19,adt⟩:=(dc.has ay).elem (i:=i0) o!
       have akV:bR env (some (.slice 39)) (some j.ao) (some (Zn i0))=some (AV.ptr p18 q19):=adt
       have T7:aY env hh 3 (AV.ptr p18 (q19+1))=some (Zi ((j.ab.g i0).takes)):=(dc.has ay).part (t:=3) (j:=1) o! adt k! rfl
       have c21:AV.same 20 j.ao j.ao=true:=(dc.has ay).same 19
       have mH:=fun {al ps} (k:Pk al _ ps)=>(hI<|BC f2<|BC f2<|BC f2<|BV f2 Yq<|BM f2 H'<|BC f2<|BM f2 (aI 22 0 j.ao bh k!)<|BC f2<|BV f2 akV<|BC f2<|BM f2 T7<|BC f2<|BV f2 (bO 3 false false .i64 minute (IntKind.i64.wrap ((ar.g i0)+((j.ab.g i0).takes))))<|VV (pe (decide (minute<(IntKind.i64.wrap ((ar.g i0)+((j.ab.g i0).takes))))) false f2)<|HH rC<|HH (show AV.same 20 (AV.bool (aj.g i0)) (AV.bool (aj.g i0))=true from iK 19 _)<|HH qK<|HH (show AV.same 20 (Zi (ar.g i0)) (Zi (ar.g i0))=true from aK 19 _ _)<|HH H'<|HH (show AV.same 20 (Zi (ar.g i0)) (Zi (ar.g i0))=true from aK 19 _ _)<|HH (aI 22 0 j.ao bh k!)<|HH c21<|HH T7<|HH (show AV.same 20 (Zi ((j.ab.g i0).takes)) (Zi ((j.ab.g i0).takes))=true from aK 19 _ _)<|k:Pk _ [] ps)
       rcases Bool.eq_false_or_eq_true (decide (minute<(IntKind.i64.wrap ((ar.g i0)+((j.ab.g i0).takes))))) with f3 | f3
       · have lV:=of_decide_eq_true f3
         obtain ⟨p24,q25,adu⟩:=(dc.has ay).elem (i:=i0) o!
         have akW:bR env (some (.slice 39)) (some j.ao) (some (Zn i0))=some (AV.ptr p24 q25):=adu
         have akX:aY env hh 39 (AV.ptr p24 q25)=some (AV.agg [(AV.str ((j.ab.g i0).name)),(Zi ((j.ab.g i0).takes)),((j.ab.g i0).aO),((j.ab.g i0).aS)]):=(dc.has ay).load o! adu
         have k27:=Yo (d:=d) (j.ab.g i0) ah ((dc.has ay).ok (i:=i0) o!) aA
         have u28:=dZ 3 false true i0 1 o!
         exact bt.round (by simp only[gR,f1,f2,f3,cond_true,cond_false]) (pk (d+1) _ _ hh _ hh (mH<|BB f3<|CN 2<|MM (aI 22 0 j.ao bh k!)<|CC<|VV akW<|MM akX<|CC<|EE k27<|CN 3<|VV u28<|CC<|ZZ) k!) (bp.refl aA) _ k! (fun x=>oS aX aU ah minute j ar aj a_ bb cf dc iU fW fq hH cS (i0+1) (IntKind.i64.wrap (fh+(hS (j.ab.g i0) ah))) o! x hh aA ay bh)
       · have lV:=of_decide_eq_false f3
         have u23:=dZ 3 false true i0 1 o!
         exact bt.round (by simp only[gR,f1,f2,f3,cond_true,cond_false]) (pk (d+1) _ _ hh _ hh (mH<|BC f3<|VV u23<|CC<|ZZ) k!) (bp.refl aA) _ k! (fun x=>oS aX aU ah minute j ar aj a_ bb cf dc iU fW fq hH cS (i0+1) fh o! x hh aA ay bh)
     · have jZ:=of_decide_eq_false f2
       have u13:=dZ 3 false true i0 1 o!
       exact bt.round (by simp only[gR,f1,f2,cond_true,cond_false]) (pk (d+1) _ _ hh _ hh (hI<|BB f2<|BB f2<|BB f2<|BB f2<|BB f2<|BB f2<|BB f2<|BB f2<|BB f2<|BB f2<|BB f2<|BB f2<|BV f2 (sS false f2)<|HH rC<|HH (show AV.same 20 (AV.bool (aj.g i0)) (AV.bool (aj.g i0))=true from iK 19 _)<|HH qK<|HH (show AV.same 20 (Zi (ar.g i0)) (Zi (ar.g i0))=true from aK 19 _ _)<|FF<|CC<|VV u13<|CC<|ZZ) k!) (bp.refl aA) _ k! (fun x=>oS aX aU ah minute j ar aj a_ bb cf dc iU fW fq hH cS (i0+1) fh o! x hh aA ay bh)
   · have u8:=dZ 3 false true i0 1 o!
     exact bt.round (by simp only[gR,f1,cond_true,cond_false]) (pk (d+1) _ _ hh _ hh (dR<|BB f1<|BB f1<|BB f1<|BB f1<|BB f1<|BV f1 (sS false f1)<|CC<|FF<|FF<|FF<|FF<|FF<|FF<|FF<|FF<|FF<|FF<|FF<|FF<|FF<|CC<|HH rC<|HH (show AV.same 20 (AV.bool (aj.g i0)) (AV.bool (aj.g i0))=true from iK 19 _)<|FF<|CC<|VV u8<|CC<|ZZ) k!) (bp.refl aA) _ k! (fun x=>oS aX aU ah minute j ar aj a_ bb cf dc iU fW fq hH cS (i0+1) fh o! x hh aA ay bh)
def jv (j:cG) (ar:List Int) (aj:List Bool) (ah:Int) (minute:Int):Int:=(gR j ah aj ar minute j.ab.length 0 0)
theorem N8 {d:Nat} {h:aw} {aX aU:AV} (j:cG) (ar:List Int) (aj:List Bool) (ah:Int) (minute:Int) (bZ:aG.ok h j) (im:bS h .i64 3 aX ar) (iZ:l7 h 4 aU aj) (nE:aj.length=j.ab.length) (qI:ar.length=j.ab.length) (ct:Tidy h):cU (d+2) (.fn 143) [(AV.agg [j.ao,j.ai]),aX,aU,(Zi ah),(Zi minute)] h= .ret (Zi (jv j ar aj ah minute)) h:=by
 have zq:=im.small
 have zp:=iZ.small
 have eT:=bZ.1.small
 have eU:=bZ.2.small
 obtain ⟨h1,dH,cP,kr,bk,bW⟩:=kh ct (aH.cells [j.ao,j.ai] 25 false)
 have bB:Has h h1:=bW
 obtain ⟨Cb,h3,dy,dt,KM⟩:=oS (d:=d) (h:=h) aX aU ah minute j ar aj h.nx im iZ bZ.1 bZ.2 bZ o! o! j.ab.length 0 0 o! (fun k_=>(((AV.agg [j.ao,j.ai])::aX::aU::(Zi ah)::(Zi minute)::(Pt h.nx)::AV.undef::AV.undef::AV.undef::AV.undef::(Zi 0)::(Zi 0)::(Zi 0)::lk 44):List AV).getD k_ AV.undef) h1 cP bB bk
 have l9:=dt.y
 have tz:h1.nx≤h3.nx:=dt.n
 have iy:Has h h3:=bB.trans dt.a
 have e:jv j ar aj ah minute=(gR j ah aj ar minute j.ab.length 0 0):=by simp only[jv,cond_true,cond_false]
 rw[e]
 exact aE rfl (aZ Tryz.func143 Yp rfl (.inr rfl) (pk (d+1) _ _ h _ h3 (NN dH (fun i=>(Pt i))<|CN 3<|LL dy<|CN 2<|ZZ) k!) k!) iy rfl
noncomputable def Lg:Code:=(Tryz.f113.body).getD .skip
theorem Jn:Tryz.f113.body=some Lg:=by kernel_rfl
def dP (n:Int):Bool:=(bif (decide (0≤n)) then (decide (n≤100000)) else false)
theorem xp {d:Nat} {h:aw} (n:Int) (ct:Tidy h):cU (d+1) (.fn 113) [(Zi n)] h= .ret (AV.bool (dP n)) h:=by
 rcases Bool.eq_false_or_eq_true (decide (0≤n)) with f0 | f0
 · have dx:=of_decide_eq_true f0
   have e:dP n=(decide (n≤100000)):=by simp only[dP,f0,cond_true,cond_false]
   rw[e]
   exact aE rfl (aZ Tryz.func113 Jn rfl (.inr rfl) (pk (d) _ _ h _ h (CN 2<|VV (pc 3 false true .i64 n 0)<|CC<|BC f0<|BV f0 (uW 3 false true .i64 n 100000)<|VV (pe (decide (n≤100000)) false f0)<|CC<|ZZ) k!) k!) (Has.refl _) rfl
 · have dx:=of_decide_eq_false f0
   have e:dP n=false:=by simp only[dP,f0,cond_true,cond_false]
   rw[e]
   exact aE rfl (aZ Tryz.func113 Jn rfl (.inr rfl) (pk (d) _ _ h _ h (CN 2<|VV (pc 3 false true .i64 n 0)<|CC<|BB f0<|BV f0 (sS false f0)<|CC<|ZZ) k!) k!) (Has.refl _) rfl
end Go.Proofs.aJ
