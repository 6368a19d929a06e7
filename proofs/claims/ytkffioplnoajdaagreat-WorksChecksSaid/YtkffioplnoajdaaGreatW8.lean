import Derived.Test.YtkffioplnoajdaaGreatW0
import Derived.Test.YtkffioplnoajdaaGreatW1
namespace Go.Proofs.aP
open Go.Proofs Ab
set_option maxRecDepth 100000
set_option maxHeartbeats 4000000
set_option linter.unusedVariables false
set_option linter.unusedSimpArgs false
noncomputable def B0:Code:=(Tryz.f147.body).getD .skip
theorem LK:Tryz.f147.body=some B0:=by kernel_rfl
noncomputable def NW:Code:=(bE B0).getD 0 .skip
def j2 (x_:Task) (ah:Int):Nat→Nat→Option (Int)
 | 0,_=>none
 | dz+1,i0=>(bif (decide (((x_.ar.g i0).ah)=ah)) then some ((x_.ar.g i0).ay) else j2 x_ ah dz (i0+1))
theorem vc {d:Nat} {h:au} (ah:Int) (x_:Task) (br:Nat) (bn:x_.name.length<2^60) (b8:b_ h .i64 3 x_.aO x_.az) (ew:aS h x_.aU x_.ar) (gU:aL.ok h x_):∀(k_ i_:Nat) (_:i_+k_=x_.ar.length) (x:Nat→AV) (hh:au) (aE:Tidy hh) (aB:Has h hh) (bj:hh.get br=some (aM.cells [(AV.str x_.name),(Zi x_.aI),x_.aO,x_.aU] 44 false)),aA (cR (d)) NW ⟨((x 0)::(Zi ah)::(Pt br)::(x 3)::(x 4)::(Zn i_)::rx x 6 21 []),hh,[],.no⟩ (.exit 0) hh (fun y=>((y 0)::(Zi ah)::(Pt br)::rx y 3 24 [])) (fun r y=>((y 0)::(Zi ah)::(Pt br)::(y 3)::(Zi r)::rx y 5 22 [])) (j2 x_ ah k_ i_)
 | 0,i0,fX,x,hh,aE,aB,bj=>by
   have eJ:=b8.small
   have jA:=ew.small
   have je:=aE _ _ bj
   have dG:b6 (some (.slice 88)) (some x_.aU)=some (Zn x_.ar.length):=(ew.has aB).len
   have q2:(decide (((i0:Nat):Int)<((x_.ar.length:Nat):Int)))=false:=d!
   exact aA.out rfl (pk (d) _ _ hh _ hh (CN 2<|MM (aw 42 3 x_.aU bj k!)<|VV dG<|VV (ba 3 false false .i64 ((i0:Nat):Int) ((x_.ar.length:Nat):Int))<|BB q2<|ZZ) k!) (bF.refl aE) k!
 | dz+1,i0,fX,x,hh,aE,aB,bj=>by
   have eJ:=b8.small
   have jA:=ew.small
   have je:=aE _ _ bj
   have dG:b6 (some (.slice 88)) (some x_.aU)=some (Zn x_.ar.length):=(ew.has aB).len
   have q2:(decide (((i0:Nat):Int)<((x_.ar.length:Nat):Int)))=true:=d!
   obtain ⟨p4,q5,iW⟩:=(ew.has aB).elem (i:=i0) o!
   have iG:bS env (some (.slice 88)) (some x_.aU) (some (Zn i0))=some (AV.ptr p4 q5):=iW
   have iV:bh env hh 3 (AV.ptr p4 (q5+0))=some (Zi ((x_.ar.g i0).ah)):=(ew.has aB).part (t:=3) (j:=0) o! iW k! rfl
   rcases Bool.eq_false_or_eq_true (decide (((x_.ar.g i0).ah)=ah)) with f1 | f1
   · have dC:=of_decide_eq_true f1
     obtain ⟨p9,Ag,pg⟩:=(ew.has aB).elem (i:=i0) o!
     have Ad:bS env (some (.slice 88)) (some x_.aU) (some (Zn i0))=some (AV.ptr p9 Ag):=pg
     have kF:bh env hh 3 (AV.ptr p9 (Ag+1))=some (Zi ((x_.ar.g i0).ay)):=(ew.has aB).part (t:=3) (j:=1) o! pg k! rfl
     exact aA.ret ((x_.ar.g i0).ay) (by simp only[j2,f1,cond_true,cond_false]) (pk (d) _ _ hh _ hh (CN 2<|MM (aw 42 3 x_.aU bj k!)<|VV dG<|VV (ba 3 false false .i64 ((i0:Nat):Int) ((x_.ar.length:Nat):Int))<|BC q2<|MM (aw 42 3 x_.aU bj k!)<|CC<|VV iG<|CC<|MM iV<|CC<|VV (lr 3 false false .i64 ((x_.ar.g i0).ah) ah)<|BC f1<|MM (aw 42 3 x_.aU bj k!)<|CC<|VV Ad<|CC<|MM kF<|CC<|ZZ) k!) (bF.refl aE) k!
   · have dC:=of_decide_eq_false f1
     have u8:=fe 3 false true i0 1 o!
     exact aA.round (by simp only[j2,f1,cond_true,cond_false]) (pk (d) _ _ hh _ hh (CN 2<|MM (aw 42 3 x_.aU bj k!)<|VV dG<|VV (ba 3 false false .i64 ((i0:Nat):Int) ((x_.ar.length:Nat):Int))<|BC q2<|MM (aw 42 3 x_.aU bj k!)<|CC<|VV iG<|CC<|MM iV<|CC<|VV (lr 3 false false .i64 ((x_.ar.g i0).ah) ah)<|BC f1<|VV u8<|CC<|ZZ) k!) (bF.refl aE) _ k! (fun x=>vc ah x_ br bn b8 ew gU dz (i0+1) o! x hh aE aB bj)
def hF (x_:Task) (ah:Int):Int:=(match (j2 x_ ah x_.ar.length 0) with | none=>0 | some AZ=>AZ)
theorem VJ {d:Nat} {h:au} (x_:Task) (ah:Int) (g8:aL.ok h x_) (bW:Tidy h):cR (d+1) (.fn 147) [(AV.agg [(AV.str x_.name),(Zi x_.aI),x_.aO,x_.aU]),(Zi ah)] h= .ret (Zi (hF x_ ah)) h:=by
 have EI:=g8.2.2.small
 obtain ⟨h1,bM,cx,jc,aQ,cA⟩:=j_ bW (aM.cells [(AV.str x_.name),(Zi x_.aI),x_.aO,x_.aU] 44 false)
 have bt:Has h h1:=cA
 cases ef:j2 x_ ah x_.ar.length 0 with
 | none=>
   obtain ⟨Mm,h3,dD,dq⟩:=aA.n ef (vc (d:=d) (h:=h) ah x_ h.nx g8.1 g8.2.1 g8.2.2 g8 x_.ar.length 0 o! (fun k_=>(((AV.agg [(AV.str x_.name),(Zi x_.aI),x_.aO,x_.aU])::(Zi ah)::(Pt h.nx)::AV.undef::(Zi 0)::(Zi 0)::g4 21):List AV).getD k_ AV.undef) h1 cx bt aQ)
   have nh:=dq.y
   have uR:h1.nx≤h3.nx:=dq.n
   have iz:Has h h3:=bt.trans dq.a
   have e:hF x_ ah=0:=by simp only[hF,ef,cond_true,cond_false]
   rw[e]
   exact aD rfl (bb Tryz.func147 LK rfl (.inr rfl) (pk (d) _ _ h _ h3 (NN bM (fun i=>(Pt i))<|CN 2<|LL dD<|CC<|ZZ) k!) k!) iz rfl
 | some AZ=>
   obtain ⟨Mm,h3,dD,dq⟩:=aA.r ef (vc (d:=d) (h:=h) ah x_ h.nx g8.1 g8.2.1 g8.2.2 g8 x_.ar.length 0 o! (fun k_=>(((AV.agg [(AV.str x_.name),(Zi x_.aI),x_.aO,x_.aU])::(Zi ah)::(Pt h.nx)::AV.undef::(Zi 0)::(Zi 0)::g4 21):List AV).getD k_ AV.undef) h1 cx bt aQ)
   have nh:=dq.y
   have uR:h1.nx≤h3.nx:=dq.n
   have iz:Has h h3:=bt.trans dq.a
   have e:hF x_ ah=AZ:=by simp only[hF,ef,cond_true,cond_false]
   rw[e]
   exact aD rfl (bb Tryz.func147 LK rfl (.inr rfl) (pk (d) _ _ h _ h3 (NN bM (fun i=>(Pt i))<|CN 2<|LL dD<|ZZ) k!) k!) iz rfl
noncomputable def B1:Code:=(Tryz.f119.body).getD .skip
theorem VK:Tryz.f119.body=some B1:=by kernel_rfl
noncomputable def NX:Code:=(bE B1).getD 0 .skip
def fZ (j:cz) (ah:Int) (aG:List Bool) (ai:List Int) (minute:Int):Nat→Nat→Int→Int
 | 0,_,o4=>o4
 | dz+1,i0,o4=>(bif (aG.g i0) then (bif (decide ((ai.g i0)≤minute)) then (bif (decide (minute<(IntKind.i64.wrap ((ai.g i0)+((j.ab.g i0).aI))))) then fZ j ah aG ai minute dz (i0+1) (IntKind.i64.wrap (o4+(hF (j.ab.g i0) ah))) else fZ j ah aG ai minute dz (i0+1) o4) else fZ j ah aG ai minute dz (i0+1) o4) else fZ j ah aG ai minute dz (i0+1) o4)
theorem ow {d:Nat} {h:au} (ax:AV) (bp:AV) (ah:Int) (minute:Int) (j:cz) (ai:List Int) (aG:List Bool) (br:Nat) (bn:b_ h .i64 3 ax ai) (b8:nv h 4 bp aG) (ew:aS h j.aj j.ab) (ma:aS h j.ag j.af) (gU:aL.ok h j) (iy:aG.length=j.ab.length) (kr:ai.length=j.ab.length):∀(k_ i_:Nat) (o4:Int) (_:i_+k_=j.ab.length) (x:Nat→AV) (hh:au) (aE:Tidy hh) (aB:Has h hh) (bj:hh.get br=some (aM.cells [j.aj,j.ag] 25 false)),cN (cR (d+1)) NX ⟨((x 0)::ax::bp::(Zi ah)::(Zi minute)::(Pt br)::rx x 6 5 ((Zi o4)::(Zn i_)::rx x 13 44 [])),hh,[],.no⟩ (.exit 0) hh (fun r y=>((y 0)::ax::bp::(Zi ah)::(Zi minute)::(Pt br)::rx y 6 5 ((Zi r)::rx y 12 45 []))) (fun r=>True) (fZ j ah aG ai minute k_ i_ o4)
 | 0,i0,o4,fX,x,hh,aE,aB,bj=>by
   have cm:=bn.small
   have eJ:=b8.small
   have jA:=ew.small
   have xN:=ma.small
   have je:=aE _ _ bj
   have dG:b6 (some (.slice 44)) (some j.aj)=some (Zn j.ab.length):=(ew.has aB).len
   have q2:(decide (((i0:Nat):Int)<((j.ab.length:Nat):Int)))=false:=d!
   exact cN.out o4 rfl (pk (d+1) _ _ hh _ hh (CN 2<|MM (aw 22 0 j.aj bj k!)<|VV dG<|VV (ba 3 false false .i64 ((i0:Nat):Int) ((j.ab.length:Nat):Int))<|BB q2<|ZZ) k!) (bF.refl aE) trivial k!
 | dz+1,i0,o4,fX,x,hh,aE,aB,bj=>by
   have cm:=bn.small
   have eJ:=b8.small
   have jA:=ew.small
   have xN:=ma.small
   have je:=aE _ _ bj
   have dG:b6 (some (.slice 44)) (some j.aj)=some (Zn j.ab.length):=(ew.has aB).len
   have q2:(decide (((i0:Nat):Int)<((j.ab.length:Nat):Int)))=true:=d!
   obtain ⟨p4,q5,iW,_⟩:=(b8.has aB).elem (i:=i0) o!
   have iG:bS env (some (.slice 4)) (some bp) (some (Zn i0))=some (AV.ptr p4 q5):=iW
   have iV:bh env hh 4 (AV.ptr p4 q5)=some (AV.bool (aG.g i0)):=(b8.has aB).load o! iW
   rcases Bool.eq_false_or_eq_true (aG.g i0) with f1 | f1
   · obtain ⟨p9,Ag,pg,_⟩:=(bn.has aB).elem (i:=i0) o!
     have Ad:bS env (some (.slice 3)) (some ax) (some (Zn i0))=some (AV.ptr p9 Ag):=pg
     have kF:bh env hh 3 (AV.ptr p9 Ag)=some (Zi (ai.g i0)):=(bn.has aB).load o! pg
     rcases Bool.eq_false_or_eq_true (decide ((ai.g i0)≤minute)) with f2 | f2
     · have jw:=of_decide_eq_true f2
       obtain ⟨VL,Ry,vd,_⟩:=(bn.has aB).elem (i:=i0) o!
       have F9:bS env (some (.slice 3)) (some ax) (some (Zn i0))=some (AV.ptr VL Ry):=vd
       have ve:bh env hh 3 (AV.ptr VL Ry)=some (Zi (ai.g i0)):=(bn.has aB).load o! vd
       obtain ⟨p18,q19,aaA⟩:=(ew.has aB).elem (i:=i0) o!
       have afM:bS env (some (.slice 44)) (some j.aj) (some (Zn i0))=some (AV.ptr p18 q19):=aaA
       have zc:bh env hh 3 (AV.ptr p18 (q19+1))=some (Zi ((j.ab.g i0).aI)):=(ew.has aB).part (t:=3) (j:=1) o! aaA k! rfl
       have c21:AV.same 20 j.aj j.aj=true:=(ew.has aB).same 19
       rcases Bool.eq_false_or_eq_true (decide (minute<(IntKind.i64.wrap ((ai.g i0)+((j.ab.g i0).aI))))) with f3 | f3
       · have mX:=of_decide_eq_true f3
         obtain ⟨p24,q25,aaB⟩:=(ew.has aB).elem (i:=i0) o!
         have ah0:bS env (some (.slice 44)) (some j.aj) (some (Zn i0))=some (AV.ptr p24 q25):=aaB
         have ah1:bh env hh 44 (AV.ptr p24 q25)=some (AV.agg [(AV.str ((j.ab.g i0).name)),(Zi ((j.ab.g i0).aI)),((j.ab.g i0).aO),((j.ab.g i0).aU)]):=(ew.has aB).load o! aaB
         have k27:=VJ (d:=d) (j.ab.g i0) ah ((ew.has aB).ok (i:=i0) o!) aE
         have u28:=fe 3 false true i0 1 o!
         exact cN.round (by simp only[fZ,f1,f2,f3,cond_true,cond_false]) (pk (d+1) _ _ hh _ hh (CN 2<|MM (aw 22 0 j.aj bj k!)<|VV dG<|VV (ba 3 false false .i64 ((i0:Nat):Int) ((j.ab.length:Nat):Int))<|BB q2<|CN 2<|VV iG<|MM iV<|CC<|BC f1<|BC f1<|BV f1 Ad<|BM f1 kF<|BC f1<|BV f1 (pS 3 false false .i64 (ai.g i0) minute)<|VV (kI (decide ((ai.g i0)≤minute)) false f1)<|CC<|BC f2<|BC f2<|BC f2<|BV f2 F9<|BM f2 ve<|BC f2<|BM f2 (aw 22 0 j.aj bj k!)<|BC f2<|BV f2 afM<|BC f2<|BM f2 zc<|BC f2<|BV f2 (ba 3 false false .i64 minute (IntKind.i64.wrap ((ai.g i0)+((j.ab.g i0).aI))))<|VV (kI (decide (minute<(IntKind.i64.wrap ((ai.g i0)+((j.ab.g i0).aI))))) false f2)<|HH iV<|HH (show AV.same 20 (AV.bool (aG.g i0)) (AV.bool (aG.g i0))=true from hH 19 _)<|HH kF<|HH (show AV.same 20 (Zi (ai.g i0)) (Zi (ai.g i0))=true from aJ 19 _ _)<|HH ve<|HH (show AV.same 20 (Zi (ai.g i0)) (Zi (ai.g i0))=true from aJ 19 _ _)<|HH (aw 22 0 j.aj bj k!)<|HH c21<|HH zc<|HH (show AV.same 20 (Zi ((j.ab.g i0).aI)) (Zi ((j.ab.g i0).aI))=true from aJ 19 _ _)<|BB f3<|CN 2<|MM (aw 22 0 j.aj bj k!)<|CC<|VV ah0<|MM ah1<|CC<|EE k27<|CN 3<|VV u28<|CC<|ZZ) k!) (bF.refl aE) _ k! (fun x=>ow ax bp ah minute j ai aG br bn b8 ew ma gU iy kr dz (i0+1) (IntKind.i64.wrap (o4+(hF (j.ab.g i0) ah))) o! x hh aE aB bj)
       · have mX:=of_decide_eq_false f3
         have u23:=fe 3 false true i0 1 o!
         exact cN.round (by simp only[fZ,f1,f2,f3,cond_true,cond_false]) (pk (d+1) _ _ hh _ hh (CN 2<|MM (aw 22 0 j.aj bj k!)<|VV dG<|VV (ba 3 false false .i64 ((i0:Nat):Int) ((j.ab.length:Nat):Int))<|BB q2<|CN 2<|VV iG<|MM iV<|CC<|BC f1<|BC f1<|BV f1 Ad<|BM f1 kF<|BC f1<|BV f1 (pS 3 false false .i64 (ai.g i0) minute)<|VV (kI (decide ((ai.g i0)≤minute)) false f1)<|CC<|BC f2<|BC f2<|BC f2<|BV f2 F9<|BM f2 ve<|BC f2<|BM f2 (aw 22 0 j.aj bj k!)<|BC f2<|BV f2 afM<|BC f2<|BM f2 zc<|BC f2<|BV f2 (ba 3 false false .i64 minute (IntKind.i64.wrap ((ai.g i0)+((j.ab.g i0).aI))))<|VV (kI (decide (minute<(IntKind.i64.wrap ((ai.g i0)+((j.ab.g i0).aI))))) false f2)<|HH iV<|HH (show AV.same 20 (AV.bool (aG.g i0)) (AV.bool (aG.g i0))=true from hH 19 _)<|HH kF<|HH (show AV.same 20 (Zi (ai.g i0)) (Zi (ai.g i0))=true from aJ 19 _ _)<|HH ve<|HH (show AV.same 20 (Zi (ai.g i0)) (Zi (ai.g i0))=true from aJ 19 _ _)<|HH (aw 22 0 j.aj bj k!)<|HH c21<|HH zc<|HH (show AV.same 20 (Zi ((j.ab.g i0).aI)) (Zi ((j.ab.g i0).aI))=true from aJ 19 _ _)<|BC f3<|VV u23<|CC<|ZZ) k!) (bF.refl aE) _ k! (fun x=>ow ax bp ah minute j ai aG br bn b8 ew ma gU iy kr dz (i0+1) o4 o! x hh aE aB bj)
     · have jw:=of_decide_eq_false f2
       have Y_:=fe 3 false true i0 1 o!
       exact cN.round (by simp only[fZ,f1,f2,cond_true,cond_false]) (pk (d+1) _ _ hh _ hh (CN 2<|MM (aw 22 0 j.aj bj k!)<|VV dG<|VV (ba 3 false false .i64 ((i0:Nat):Int) ((j.ab.length:Nat):Int))<|BB q2<|CN 2<|VV iG<|MM iV<|CC<|BC f1<|BC f1<|BV f1 Ad<|BM f1 kF<|BC f1<|BV f1 (pS 3 false false .i64 (ai.g i0) minute)<|VV (kI (decide ((ai.g i0)≤minute)) false f1)<|CC<|BB f2<|BB f2<|BB f2<|BB f2<|BB f2<|BB f2<|BB f2<|BB f2<|BB f2<|BB f2<|BB f2<|BB f2<|BV f2 (tS false f2)<|HH iV<|HH (show AV.same 20 (AV.bool (aG.g i0)) (AV.bool (aG.g i0))=true from hH 19 _)<|HH kF<|HH (show AV.same 20 (Zi (ai.g i0)) (Zi (ai.g i0))=true from aJ 19 _ _)<|FF<|CC<|VV Y_<|CC<|ZZ) k!) (bF.refl aE) _ k! (fun x=>ow ax bp ah minute j ai aG br bn b8 ew ma gU iy kr dz (i0+1) o4 o! x hh aE aB bj)
   · have u8:=fe 3 false true i0 1 o!
     exact cN.round (by simp only[fZ,f1,cond_true,cond_false]) (pk (d+1) _ _ hh _ hh (CN 2<|MM (aw 22 0 j.aj bj k!)<|VV dG<|VV (ba 3 false false .i64 ((i0:Nat):Int) ((j.ab.length:Nat):Int))<|BB q2<|CN 2<|VV iG<|MM iV<|CC<|BB f1<|BB f1<|BB f1<|BB f1<|BB f1<|BV f1 (tS false f1)<|CC<|FF<|FF<|FF<|FF<|FF<|FF<|FF<|FF<|FF<|FF<|FF<|FF<|FF<|CC<|HH iV<|HH (show AV.same 20 (AV.bool (aG.g i0)) (AV.bool (aG.g i0))=true from hH 19 _)<|FF<|CC<|VV u8<|CC<|ZZ) k!) (bF.refl aE) _ k! (fun x=>ow ax bp ah minute j ai aG br bn b8 ew ma gU iy kr dz (i0+1) o4 o! x hh aE aB bj)
def gn (j:cz) (ai:List Int) (aG:List Bool) (ah:Int) (minute:Int):Int:=(fZ j ah aG ai minute j.ab.length 0 0)
theorem LM {d:Nat} {h:au} {ax bp:AV} (j:cz) (ai:List Int) (aG:List Bool) (ah:Int) (minute:Int) (bH:aL.ok h j) (bm:b_ h .i64 3 ax ai) (jU:nv h 4 bp aG) (lI:aG.length=j.ab.length) (oL:ai.length=j.ab.length) (bW:Tidy h):cR (d+2) (.fn 119) [(AV.agg [j.aj,j.ag]),ax,bp,(Zi ah),(Zi minute)] h= .ret (Zi (gn j ai aG ah minute)) h:=by
 have fG:=bm.small
 have EH:=jU.small
 have dP:=bH.1.small
 have dQ:=bH.2.small
 obtain ⟨h1,bM,cx,jc,aQ,cA⟩:=j_ bW (aM.cells [j.aj,j.ag] 25 false)
 have bt:Has h h1:=cA
 obtain ⟨Mm,h3,dD,dq,CI⟩:=ow (d:=d) (h:=h) ax bp ah minute j ai aG h.nx bm jU bH.1 bH.2 bH o! o! j.ab.length 0 0 o! (fun k_=>(((AV.agg [j.aj,j.ag])::ax::bp::(Zi ah)::(Zi minute)::(Pt h.nx)::AV.undef::AV.undef::AV.undef::AV.undef::(Zi 0)::(Zi 0)::(Zi 0)::g4 44):List AV).getD k_ AV.undef) h1 cx bt aQ
 have nh:=dq.y
 have uR:h1.nx≤h3.nx:=dq.n
 have iz:Has h h3:=bt.trans dq.a
 have e:gn j ai aG ah minute=(fZ j ah aG ai minute j.ab.length 0 0):=by simp only[gn,cond_true,cond_false]
 rw[e]
 exact aD rfl (bb Tryz.func119 VK rfl (.inr rfl) (pk (d+1) _ _ h _ h3 (NN bM (fun i=>(Pt i))<|CN 3<|LL dD<|CN 2<|ZZ) k!) k!) iz rfl
noncomputable def I5:Code:=(Tryz.f73.body).getD .skip
theorem Hj:Tryz.f73.body=some I5:=by kernel_rfl
def cD (n:Int):Bool:=(bif (decide (0≤n)) then (decide (n≤100000)) else false)
theorem vO {d:Nat} {h:au} (n:Int) (bW:Tidy h):cR (d+1) (.fn 73) [(Zi n)] h= .ret (AV.bool (cD n)) h:=by
 rcases Bool.eq_false_or_eq_true (decide (0≤n)) with f0 | f0
 · have dO:=of_decide_eq_true f0
   have e:cD n=(decide (n≤100000)):=by simp only[cD,f0,cond_true,cond_false]
   rw[e]
   exact aD rfl (bb Tryz.func73 Hj rfl (.inr rfl) (pk (d) _ _ h _ h (CN 2<|VV (lH 3 false true .i64 n 0)<|CC<|BC f0<|BV f0 (pS 3 false true .i64 n 100000)<|VV (kI (decide (n≤100000)) false f0)<|CC<|ZZ) k!) k!) (Has.refl _) rfl
 · have dO:=of_decide_eq_false f0
   have e:cD n=false:=by simp only[cD,f0,cond_true,cond_false]
   rw[e]
   exact aD rfl (bb Tryz.func73 Hj rfl (.inr rfl) (pk (d) _ _ h _ h (CN 2<|VV (lH 3 false true .i64 n 0)<|CC<|BB f0<|BV f0 (tS false f0)<|CC<|ZZ) k!) k!) (Has.refl _) rfl
end Go.Proofs.aP
