import Derived.Test.YtkffioplnoajdaaGreatW0
import Derived.Test.YtkffioplnoajdaaGreatW1
import Derived.Test.YtkffioplnoajdaaGreatW9
import Derived.Test.YtkffioplnoajdaaGreatW4
import Derived.Test.YtkffioplnoajdaaGreatW7
import Derived.Test.YtkffioplnoajdaaGreatW6
namespace Go.Proofs.aP
open Go.Proofs Ab
set_option maxRecDepth 100000
set_option maxHeartbeats 4000000
set_option linter.unusedVariables false
set_option linter.unusedSimpArgs false
noncomputable def sJ:Code:=(Tryz.f33.body).getD .skip
theorem Hk:Tryz.f33.body=some sJ:=by kernel_rfl
noncomputable def LQ:Code:=(bE sJ).getD 0 .skip
noncomputable def LS:Code:=(bE sJ).getD 1 .skip
def iC (j:cz):Nat→Nat→List Bool→List Bool
 | 0,_,bD=>bD
 | dz+1,i0,bD=>iC j dz (i0+1) (bD.set i0 true)
theorem zT {d:Nat} {h:au} (ax:AV) (j:cz) (ai:List Int) (br:Nat) (dw:Nat) (bn:b_ h .i64 3 ax ai) (b8:aS h j.aj j.ab) (ew:aS h j.ag j.af) (gU:aL.ok h j) (iy:∀i,i<j.ab.length→∀q,q<(j.ab.g i).az.length→0≤(j.ab.g i).az.g q∧(j.ab.g i).az.g q<(j.ab.length:Int)) (kr:∀i,i<j.ab.length→∀q,q<(j.ab.g i).ar.length→0≤((j.ab.g i).ar.g q).ah∧((j.ab.g i).ar.g q).ah<(j.af.length:Int)) (rF:ai.length=j.ab.length) (tD:j.ab.length≤100000) (bW:Tidy h) (AQ:h.nx≤br) (Nj:h.nx≤dw) (xu:dw≠br):∀(k_ i_:Nat) (bD:List Bool) (_:i_+k_=j.ab.length) (x:Nat→AV) (hh:au) (aE:Tidy hh) (aB:Has h hh) (jv:h.nx≤hh.nx) (mo:bD.length=j.ab.length) (bj:hh.get br=some (aM.cells [j.aj,j.ag] 25 false)) (dR:hh.get dw=some (aM.cells (bs bD) 4 false)),cg (σ:=List Bool) (ρ:=Unit) (cR (d+3)) LQ ⟨((x 0)::ax::(Pt br)::(x 3)::(x 4)::(AV.slice dw 0 j.ab.length j.ab.length false)::(Zn i_)::rx x 7 38 []),hh,[],.no⟩ (.exit 0) hh (fun r z y=>((y 0)::ax::(Pt br)::(y 3)::(y 4)::(AV.slice dw 0 j.ab.length j.ab.length false)::rx y 6 39 [])) (fun r z y=>((y 0)::ax::(Pt br)::(y 3)::(y 4)::(AV.slice dw 0 j.ab.length j.ab.length false)::rx y 6 39 [])) (fun r z hk=>Has h hk∧hk.get br=some (aM.cells [j.aj,j.ag] 25 false)∧hk.get dw=some (aM.cells (bs r) 4 false)∧r.length=j.ab.length) (fun r z hk=>Has h hk) (Sum.inl (iC j k_ i_ bD))
 | 0,i0,bD,fX,x,hh,aE,aB,jv,mo,bj,dR=>by
   have cm:=bn.small
   have eJ:=b8.small
   have jA:=ew.small
   have je:=aE _ _ bj
   have FR:=aE _ _ dR
   have dG:b6 (some (.slice 44)) (some j.aj)=some (Zn j.ab.length):=b8.len
   have q2:(decide (((i0:Nat):Int)<((j.ab.length:Nat):Int)))=false:=d!
   exact cg.out bD AV.undef rfl (pk (d+3) _ _ hh _ hh (CN 2<|MM (aw 22 0 j.aj bj k!)<|VV dG<|VV (ba 3 false false .i64 ((i0:Nat):Int) ((j.ab.length:Nat):Int))<|BB q2<|ZZ) k!) aE o! ⟨aB,bj,dR,l!⟩ k!
 | dz+1,i0,bD,fX,x,hh,aE,aB,jv,mo,bj,dR=>by
   have cm:=bn.small
   have eJ:=b8.small
   have jA:=ew.small
   have je:=aE _ _ bj
   have FR:=aE _ _ dR
   have dG:b6 (some (.slice 44)) (some j.aj)=some (Zn j.ab.length):=b8.len
   have q2:(decide (((i0:Nat):Int)<((j.ab.length:Nat):Int)))=true:=d!
   have iG:bS env (some (.slice 4)) (some (AV.slice dw 0 j.ab.length j.ab.length false)) (some (Zn i0))=some (AV.ptr dw i0):=km k! (show i0<j.ab.length by omega) o!
   obtain ⟨h4,N7⟩:∃IK:au,IK=hh.put dw (some (aM.cells (bs (bD.set i0 true)) 4 false)):=⟨_,rfl⟩
   have Zg:dL env hh 4 (AV.ptr dw i0) (AV.bool true)=some h4:=by rw[N7];exact pT k! dR l!
   have xW:Iw hh h4 dw (aM.cells (bs (bD.set i0 true)) 4 false):=by rw[N7];exact j9 aE dR
   have nA:=xW.1
   have YU:h4.nx=hh.nx:=by rw[N7];rfl
   have kQ:Has h h4:=xW.has aB bW o!
   have u5:=fe 3 false true i0 1 o!
   exact cg.round (congrArg Sum.inl (by simp only[iC,cond_true,cond_false])) (pk (d+3) _ _ hh _ h4 (CN 2<|MM (aw 22 0 j.aj bj k!)<|VV dG<|VV (ba 3 false false .i64 ((i0:Nat):Int) ((j.ab.length:Nat):Int))<|BB q2<|CN 2<|VV iG<|SS Zg<|CC<|VV u5<|CC<|ZZ) k!) o! _ k! (fun x=>zT ax j ai br dw bn b8 ew gU iy kr rF tD bW AQ Nj xu dz (i0+1) (bD.set i0 true) o! x h4 nA kQ o! l! (xW.2.2 _ _ o! bj) xW.2.1)
def jH (j:cz) (ai:List Int):Nat→Nat→List Bool→(List Bool)⊕(Bool)
 | 0,_,ca=>Sum.inl ca
 | qN+1,i1,ca=>(bif (!(iZ j ai (ca.set i1 false) ((i1:Nat):Int) (ai.g i1))) then Sum.inr false else jH j ai qN (i1+1) ((ca.set i1 false).set i1 true))
theorem sK {d:Nat} {h:au} (ax:AV) (j:cz) (ai:List Int) (cE:Nat) (cK:Nat) (dM:b_ h .i64 3 ax ai) (dm:aS h j.aj j.ab) (l8:aS h j.ag j.af) (l9:aL.ok h j) (pa:∀i,i<j.ab.length→∀q,q<(j.ab.g i).az.length→0≤(j.ab.g i).az.g q∧(j.ab.g i).az.g q<(j.ab.length:Int)) (sr:∀i,i<j.ab.length→∀q,q<(j.ab.g i).ar.length→0≤((j.ab.g i).ar.g q).ah∧((j.ab.g i).ar.g q).ah<(j.af.length:Int)) (dv:ai.length=j.ab.length) (jS:j.ab.length≤100000) (bW:Tidy h) (II:h.nx≤cE) (Ni:h.nx≤cK) (xr:cK≠cE):∀(k_ i_:Nat) (ca:List Bool) (_:i_+k_=j.ab.length) (x:Nat→AV) (hh:au) (aE:Tidy hh) (aB:Has h hh) (jv:h.nx≤hh.nx) (qt:ca.length=j.ab.length) (bZ:hh.get cE=some (aM.cells [j.aj,j.ag] 25 false)) (cf:hh.get cK=some (aM.cells (bs ca) 4 false)),cg (σ:=List Bool) (ρ:=Bool) (cR (d+3)) LS ⟨((x 0)::ax::(Pt cE)::(x 3)::(x 4)::(AV.slice cK 0 j.ab.length j.ab.length false)::(x 6)::(Zn i_)::rx x 8 37 []),hh,[],.no⟩ (.exit 2) hh (fun r z y=>((y 0)::ax::(Pt cE)::(y 3)::(y 4)::(AV.slice cK 0 j.ab.length j.ab.length false)::rx y 6 39 [])) (fun r z y=>((y 0)::ax::(Pt cE)::(y 3)::(AV.bool r)::(AV.slice cK 0 j.ab.length j.ab.length false)::rx y 6 39 [])) (fun r z hk=>Has h hk∧hk.get cE=some (aM.cells [j.aj,j.ag] 25 false)∧hk.get cK=some (aM.cells (bs r) 4 false)∧r.length=j.ab.length) (fun r z hk=>Has h hk) (jH j ai k_ i_ ca)
 | 0,i1,ca,fX,x,hh,aE,aB,jv,qt,bZ,cf=>by
   have jy:=dM.small
   have jz:=dm.small
   have xV:=l8.small
   have ss:=aE _ _ bZ
   have AS:=aE _ _ cf
   have NB:=pa
   have UB:=sr
   have dG:b6 (some (.slice 44)) (some j.aj)=some (Zn j.ab.length):=dm.len
   have q2:(decide (((i1:Nat):Int)<((j.ab.length:Nat):Int)))=false:=d!
   exact cg.out ca AV.undef rfl (pk (d+3) _ _ hh _ hh (CN 2<|MM (aw 22 0 j.aj bZ k!)<|VV dG<|VV (ba 3 false false .i64 ((i1:Nat):Int) ((j.ab.length:Nat):Int))<|BB q2<|ZZ) k!) aE o! ⟨aB,bZ,cf,l!⟩ k!
 | qN+1,i1,ca,fX,x,hh,aE,aB,jv,qt,bZ,cf=>by
   have jy:=dM.small
   have jz:=dm.small
   have xV:=l8.small
   have ss:=aE _ _ bZ
   have AS:=aE _ _ cf
   have NB:=pa
   have UB:=sr
   have dG:b6 (some (.slice 44)) (some j.aj)=some (Zn j.ab.length):=dm.len
   have q2:(decide (((i1:Nat):Int)<((j.ab.length:Nat):Int)))=true:=d!
   have iG:bS env (some (.slice 4)) (some (AV.slice cK 0 j.ab.length j.ab.length false)) (some (Zn i1))=some (AV.ptr cK i1):=km k! (show i1<j.ab.length by omega) o!
   obtain ⟨h4,N7⟩:∃IK:au,IK=hh.put cK (some (aM.cells (bs (ca.set i1 false)) 4 false)):=⟨_,rfl⟩
   have Zg:dL env hh 4 (AV.ptr cK i1) (AV.bool false)=some h4:=by rw[N7];exact pT k! cf l!
   have xW:Iw hh h4 cK (aM.cells (bs (ca.set i1 false)) 4 false):=by rw[N7];exact j9 aE cf
   have nA:=xW.1
   have YU:h4.nx=hh.nx:=by rw[N7];rfl
   have kQ:Has h h4:=xW.has aB bW o!
   obtain ⟨p6,q7,VC,_⟩:=dM.elem (i:=i1) o!
   have WW:bS env (some (.slice 3)) (some ax) (some (Zn i1))=some (AV.ptr p6 q7):=VC
   have ld8:bh env h4 3 (AV.ptr p6 q7)=some (Zi (ai.g i1)):=(dM.has kQ).load o! VC
   have k9:=VQ (d:=d) j ai (ca.set i1 false) ((i1:Nat):Int) (ai.g i1) (aL.mono kQ l9) (dM.has kQ) (nv.own (op:=false) k! k! xW.2.1 l! o!) (by first | omega | assumption | exact NB _ o! | exact UB _ o! | exact lI _ o! | exact oL _ o! | (simp only[List.length_set,List.length_replicate]<;>omega)) (by first | omega | assumption | exact NB _ o! | exact UB _ o! | exact lI _ o! | exact oL _ o! | (simp only[List.length_set,List.length_replicate]<;>omega)) (by first | omega | assumption | exact NB _ o! | exact UB _ o! | exact lI _ o! | exact oL _ o! | (simp only[List.length_set,List.length_replicate]<;>omega)) (by first | omega | assumption | exact NB _ o! | exact UB _ o! | exact lI _ o! | exact oL _ o! | (simp only[List.length_set,List.length_replicate]<;>omega)) (by first | omega | assumption | exact NB _ o! | exact UB _ o! | exact lI _ o! | exact oL _ o! | (simp only[List.length_set,List.length_replicate]<;>omega)) (by first | omega | assumption | exact NB _ o! | exact UB _ o! | exact lI _ o! | exact oL _ o! | (simp only[List.length_set,List.length_replicate]<;>omega)) nA
   have I':AV.same 20 (AV.agg [j.aj,j.ag]) (AV.agg [j.aj,j.ag])=true:=fj 18 (oX dm.same (oX l8.same Ix))
   rcases Bool.eq_false_or_eq_true (!(iZ j ai (ca.set i1 false) ((i1:Nat):Int) (ai.g i1))) with f1 | f1
   · exact cg.ret false AV.undef (by simp only[jH,f1,cond_true,cond_false]) (pk (d+3) _ _ hh _ h4 (CN 2<|MM (aw 22 0 j.aj bZ k!)<|VV dG<|VV (ba 3 false false .i64 ((i1:Nat):Int) ((j.ab.length:Nat):Int))<|BB q2<|CN 2<|VV iG<|SS Zg<|MM (aw 25 0 (AV.agg [j.aj,j.ag]) (xW.2.2 _ _ o! bZ) k!)<|CN 5<|VV WW<|MM ld8<|EE k9<|CC<|HH (aw 25 0 (AV.agg [j.aj,j.ag]) (xW.2.2 _ _ o! bZ) k!)<|HH I'<|HH ld8<|HH (show AV.same 20 (Zi (ai.g i1)) (Zi (ai.g i1))=true from aJ 19 _ _)<|BC f1<|ZZ) k!) nA o! kQ k!
   · have Lj:bS env (some (.slice 4)) (some (AV.slice cK 0 j.ab.length j.ab.length false)) (some (Zn i1))=some (AV.ptr cK i1):=km k! (show i1<j.ab.length by omega) o!
     obtain ⟨mq,uU⟩:∃IK:au,IK=h4.put cK (some (aM.cells (bs ((ca.set i1 false).set i1 true)) 4 false)):=⟨_,rfl⟩
     have oi:dL env h4 4 (AV.ptr cK i1) (AV.bool true)=some mq:=by rw[uU];exact pT k! xW.2.1 l!
     have lK:Iw h4 mq cK (aM.cells (bs ((ca.set i1 false).set i1 true)) 4 false):=by rw[uU];exact j9 nA xW.2.1
     have ku:=lK.1
     have Lk:mq.nx=h4.nx:=by rw[uU];rfl
     have iF:Has h mq:=lK.has kQ bW o!
     have u14:=fe 3 false true i1 1 o!
     exact cg.round (by simp only[jH,f1,cond_true,cond_false]) (pk (d+3) _ _ hh _ mq (CN 2<|MM (aw 22 0 j.aj bZ k!)<|VV dG<|VV (ba 3 false false .i64 ((i1:Nat):Int) ((j.ab.length:Nat):Int))<|BB q2<|CN 2<|VV iG<|SS Zg<|MM (aw 25 0 (AV.agg [j.aj,j.ag]) (xW.2.2 _ _ o! bZ) k!)<|CN 5<|VV WW<|MM ld8<|EE k9<|CC<|HH (aw 25 0 (AV.agg [j.aj,j.ag]) (xW.2.2 _ _ o! bZ) k!)<|HH I'<|HH ld8<|HH (show AV.same 20 (Zi (ai.g i1)) (Zi (ai.g i1))=true from aJ 19 _ _)<|BB f1<|CN 2<|VV Lj<|SS oi<|CC<|VV u14<|CC<|ZZ) k!) o! _ k! (fun x=>sK ax j ai cE cK dM dm l8 l9 pa sr dv jS bW II Ni xr qN (i1+1) ((ca.set i1 false).set i1 true) o! x mq ku iF o! l! (lK.2.2 _ _ o! (xW.2.2 _ _ o! bZ)) lK.2.1)
def nU (j:cz) (ai:List Int):Bool:=(match (jH j ai j.ab.length 0 (iC j j.ab.length 0 (List.replicate j.ab.length false))) with | Sum.inl rv8=>true | Sum.inr VS=>VS)
theorem RV {d:Nat} {h:au} {ax:AV} (j:cz) (ai:List Int) (bH:aL.ok h j) (bm:b_ h .i64 3 ax ai) (lI:∀i,i<j.ab.length→∀q,q<(j.ab.g i).az.length→0≤(j.ab.g i).az.g q∧(j.ab.g i).az.g q<(j.ab.length:Int)) (oL:∀i,i<j.ab.length→∀q,q<(j.ab.g i).ar.length→0≤((j.ab.g i).ar.g q).ah∧((j.ab.g i).ar.g q).ah<(j.af.length:Int)) (D2:ai.length=j.ab.length) (FK:j.ab.length≤100000) (bW:Tidy h):cR (d+4) (.fn 33) [(AV.agg [j.aj,j.ag]),ax] h= .ret (AV.bool (nU j ai)) h:=by
 have fG:=bm.small
 have dP:=bH.1.small
 have dQ:=bH.2.small
 obtain ⟨h1,bM,cx,jc,aQ,cA⟩:=j_ bW (aM.cells [j.aj,j.ag] 25 false)
 have bt:Has h h1:=cA
 have re:b6 (some (.slice 44)) (some j.aj)=some (Zn j.ab.length):=bH.1.len
 have mk3:yU env (some (.slice 4)) (some (Zn j.ab.length)) (some (Zn j.ab.length))=some (aM.cells (bT [(AV.bool false)] j.ab.length) 4 false,fun i=>AV.slice i 0 j.ab.length j.ab.length false):=pr (bytes:=1) (z:=(AV.bool false)) k! k! k! rfl (by decide) o!
 obtain ⟨h4,Nu,nA,YU,U4,IM⟩:=j_ cx (aM.cells (bT [(AV.bool false)] j.ab.length) 4 false)
 have kQ:Has h h4:=bt.trans IM
 have VE:h4.get h1.nx=some (aM.cells (bs (List.replicate j.ab.length false)) 4 false):=by have q:=U4;rw[AN] at q;exact q
 obtain ⟨zo7,Fm,h6,p_,jf,NM,LB,NP,VT,acA⟩:=cg.n rfl (zT (d:=d) (h:=h) ax j ai h.nx h1.nx bm bH.1 bH.2 bH lI oL o! o! bW o! o! o! j.ab.length 0 (List.replicate j.ab.length false) o! (fun k_=>(((AV.agg [j.aj,j.ag])::ax::(Pt h.nx)::AV.undef::(AV.bool false)::(AV.slice h1.nx 0 j.ab.length j.ab.length false)::(Zi 0)::AV.undef::(Pt h.nx)::j.aj::(Zn j.ab.length)::(AV.slice h1.nx 0 j.ab.length j.ab.length false)::g4 33):List AV).getD k_ AV.undef) h4 nA kQ o! l! (IM _ _ aQ) VE)
 have ia:Has h h6:=LB
 cases mc:jH j ai j.ab.length 0 (iC j j.ab.length 0 (List.replicate j.ab.length false)) with
 | inl rv8=>
   obtain ⟨ae6,yl8,h9,mO,nz,FN,BP,Ng,ah3,UF⟩:=cg.n mc (sK (d:=d) (h:=h) ax j ai h.nx h1.nx bm bH.1 bH.2 bH lI oL o! o! bW o! o! o! j.ab.length 0 (iC j j.ab.length 0 (List.replicate j.ab.length false)) o! (fun k_=>(((Fm 0)::ax::(Pt h.nx)::(Fm 3)::(Fm 4)::(AV.slice h1.nx 0 j.ab.length j.ab.length false)::(Fm 6)::(Zi 0)::rx Fm 8 37 []):List AV).getD k_ AV.undef) h6 jf ia o! l! NP VT)
   have hZ:Has h h9:=BP
   have e:nU j ai=true:=by simp only[nU,mc,cond_true,cond_false]
   rw[e]
   exact aD rfl (bb Tryz.func33 Hk rfl (.inr rfl) (pk (d+3) _ _ h _ h9 (NN bM (fun i=>(Pt i))<|CN 2<|MM (aw 22 0 j.aj aQ k!)<|VV re<|KK mk3 Nu<|CN 2<|LL p_<|CC<|LL mO<|CC<|ZZ) k!) k!) hZ rfl
 | inr VS=>
   obtain ⟨ae6,yl8,h9,mO,nz,FN,BP⟩:=cg.r mc (sK (d:=d) (h:=h) ax j ai h.nx h1.nx bm bH.1 bH.2 bH lI oL o! o! bW o! o! o! j.ab.length 0 (iC j j.ab.length 0 (List.replicate j.ab.length false)) o! (fun k_=>(((Fm 0)::ax::(Pt h.nx)::(Fm 3)::(Fm 4)::(AV.slice h1.nx 0 j.ab.length j.ab.length false)::(Fm 6)::(Zi 0)::rx Fm 8 37 []):List AV).getD k_ AV.undef) h6 jf ia o! l! NP VT)
   have hZ:Has h h9:=BP
   have e:nU j ai=VS:=by simp only[nU,mc,cond_true,cond_false]
   rw[e]
   exact aD rfl (bb Tryz.func33 Hk rfl (.inr rfl) (pk (d+3) _ _ h _ h9 (NN bM (fun i=>(Pt i))<|CN 2<|MM (aw 22 0 j.aj aQ k!)<|VV re<|KK mk3 Nu<|CN 2<|LL p_<|CC<|LL mO<|ZZ) k!) k!) hZ rfl
def jW (f:Nat→Int):Nat→Nat→Int
 | 0,_=>0
 | k+1,i=>f i+jW f k (i+1)
theorem A_ {f:Nat→Int}:∀(k i:Nat),jW f (k+1) i=jW f k i+f (i+k)
 | 0,i=>by rw[jW,jW,jW,Nat.add_zero];omega
 | k+1,i=>by
   rw[jW,A_ k (i+1),jW,show i+1+k=i+(k+1) by omega];omega
theorem sL {f g:Nat→Int}:∀{k i:Nat},(∀q,i≤q→q<i+k→f q=g q)→jW f k i=jW g k i
 | 0,i,h=>rfl
 | k+1,i,h=>by rw[jW,jW,h i (Nat.le_refl _) o!,sL (k:=k) (i:=i+1) fun q a b=>h q o! o!]
theorem P2 {f g:Nat→Int}:∀{k i:Nat},(∀q,i≤q→q<i+k→f q≤g q)→jW f k i≤jW g k i
 | 0,i,h=>Int.le_refl _
 | k+1,i,h=>by
   have a:=h i (Nat.le_refl _) o!
   have b:=P2 (k:=k) (i:=i+1) (f:=f) (g:=g) fun q a b=>h q o! o!
   rw[jW,jW];omega
theorem Hl:∀(k i:Nat),jW (fun _=>0) k i=0
 | 0,i=>rfl
 | k+1,i=>by rw[jW,Hl k (i+1)];rfl
theorem A' {f:Nat→Int} {q:Nat}:∀{k i:Nat},i≤q→q<i+k→jW f k i=f q+jW (fun x=>if x=q then 0 else f x) k i
 | 0,i,a,b=>by omega
 | k+1,i,a,b=>by
   rw[jW,jW]
   by_cases e:i=q
   · subst e
     rw[if_pos rfl,sL (f:=f) (g:=fun x=>if x=i then 0 else f x) (k:=k) (i:=i+1) fun x p _=>by rw[if_neg o!]]
     omega
   · rw[if_neg e,A' (q:=q) (k:=k) (i:=i+1) o! o!];omega
def Zh (j:cz) (s:List Int) (i:Nat) (m:Int):Prop:=s.g i≤m∧m<s.g i+(j.ab.g i).aI
instance (j:cz) (s:List Int) (i:Nat) (m:Int):Decidable (Zh j s i m):=by unfold Zh;infer_instance
def yl (j:cz) (s:List Int) (r:Nat) (m:Int) (i:Nat):Int:=if Zh j s i m then hF (j.ab.g i) (r:Int) else 0
def ET (x:bJ) (m:Int):Int:=FT (x.off.map fun s=>(s,x.ay)) m
theorem Hm {x:Task} {r:Int}:∀{k i:Nat},(∀q,i≤q→q<i+k→(x.ar.g q).ah≠r)→j2 x r k i=none
 | 0,i,h=>rfl
 | k+1,i,h=>by
   rw[j2,decide_eq_false (h i (Nat.le_refl _) o!),cond_false]
   exact Hm fun q a b=>h q o! o!
theorem LU {x:Task} {r:Int} {q0:Nat}:∀{k i:Nat},i≤q0→q0<i+k→(x.ar.g q0).ah=r→(∀q,i≤q→q<q0→(x.ar.g q).ah≠r)→j2 x r k i=some (x.ar.g q0).ay
 | 0,i,a,b,e,h=>by omega
 | k+1,i,a,b,e,h=>by
   rw[j2]
   by_cases z:i=q0
   · subst z;rw[decide_eq_true e];rfl
   · rw[decide_eq_false (h i (Nat.le_refl _) o!),cond_false]
     exact LU o! o! e fun q a b=>h q o! o!
theorem CV {j:cz} (F:eA j) {i:Nat} (hi:i<j.ab.length) {q:Nat} (hq:q<(j.ab.g i).ar.length):hF (j.ab.g i) ((j.ab.g i).ar.g q).ah=((j.ab.g i).ar.g q).ay:=by
 rw[hF,LU (q0:=q) (Nat.zero_le _) o! rfl fun q' _ h=>F.ud i hi q' o! q h hq]
theorem Ja {j:cz} (F:eA j) {i:Nat} (hi:i<j.ab.length) (r:Int):(∃q,q<(j.ab.g i).ar.length∧((j.ab.g i).ar.g q).ah=r)∨((∀q,q<(j.ab.g i).ar.length→((j.ab.g i).ar.g q).ah≠r)∧hF (j.ab.g i) r=0):=by
 by_cases h:∃q,q<(j.ab.g i).ar.length∧((j.ab.g i).ar.g q).ah=r
 · exact .inl h
 · have hn:∀q,q<(j.ab.g i).ar.length→((j.ab.g i).ar.g q).ah≠r:=fun q hq e=>h ⟨q,hq,e⟩
   exact .inr ⟨hn,by rw[hF,Hm fun q _ b=>hn q o!]⟩
theorem P3 {j:cz} (F:eA j) {i:Nat} (hi:i<j.ab.length) (r:Int):0≤hF (j.ab.g i) r∧hF (j.ab.g i) r≤1000:=by
 rcases Ja F hi r with ⟨q,hq,e⟩ | ⟨_,e⟩
 · rw[←e,CV F hi hq]
   have a:=F.um i hi q hq
   have b:=F.ur i hi q hq
   have c:=(F.rs (Int.toNat ((j.ab.g i).ar.g q).ah) o!).2.2
   omega
 · rw[e];decide
theorem vQ (s:Span) (c:Int) (l:List (Span×Int)) (m:Int):FT ((s,c)::l) m=Vc s m c+FT l m:=by
 unfold FT;rw[List.map_cons,List.sum_cons]
theorem EU {c m:Int}:∀{l:List Span},(∀s∈l,¬(s.a_≤m∧m≤s.aN))→FT (l.map fun s=>(s,c)) m=0
 | [],_=>rfl
 | s::l,h=>by
   rw[List.map_cons,vQ,EU fun x hx=>h x (.tail _ hx),Vc,if_neg (h s (.head _))];rfl
theorem Jb {c m:Int} (hc:0≤c):∀{l:List Span},0≤FT (l.map fun s=>(s,c)) m
 | []=>Int.le_refl _
 | s::l=>by
   have:=Jb hc (m:=m) (l:=l)
   rw[List.map_cons,vQ,Vc]
   split<;>omega
theorem VU {c m:Int} (hc:0≤c) {s:Span}:∀{l:List Span},s∈l→s.a_≤m→m≤s.aN→c≤FT (l.map fun s=>(s,c)) m
 | x::l,h,a,b=>by
   rw[List.map_cons,vQ,Vc]
   cases h with
   | head=>rw[if_pos ⟨a,b⟩];have:=Jb hc (m:=m) (l:=l);omega
   | tail _ h=>have:=VU hc h a b;split<;>omega
theorem VW {c m:Int} (hc:0≤c):∀{l:List Span},l.Pairwise (fun a b=>a.aN<b.a_)→FT (l.map fun s=>(s,c)) m≤c
 | [],_=>hc
 | s::l,h=>by
   obtain ⟨h1,h2⟩:=List.pairwise_cons.1 h
   rw[List.map_cons,vQ,Vc]
   by_cases z:s.a_≤m∧m≤s.aN
   · rw[if_pos z,EU fun x hx e=>by have:=h1 x hx;omega];omega
   · rw[if_neg z];have:=VW hc (m:=m) h2;omega
theorem ac1 {j:cz} (F:eA j) {r:Nat} (hr:r<j.af.length):(j.af.g r).off.Pairwise (fun a b=>a.aN<b.a_):=by
 have hg:∀q (h:q<(j.af.g r).off.length),(j.af.g r).off.g q=(j.af.g r).off[q]:=fun q h=>by rw[List.g,List.getD_eq_getElem?_getD,List.getElem?_eq_getElem h];rfl
 have key:∀b a,a<b→b<(j.af.g r).off.length→((j.af.g r).off.g a).aN<((j.af.g r).off.g b).a_:=fun b=>by
  induction b with
  | zero=>intro a h;omega
  | succ b ih=>
    intro a h hb
    have x:=(F.rs r hr).2.1 (b+1) o! hb
    rw[Nat.add_sub_cancel] at x
    by_cases e:a=b
    · subst e;exact x
    · have y:=ih a o! o!
      have z:=(F.rs r hr).1 b o!
      omega
 refine List.pairwise_iff_getElem.2 fun a b ha hb ZS=>?_
 rw[←hg a ha,←hg b hb]
 exact key b a ZS hb
def Tm (j:cz) (s:List Int):Prop:=∀i,i<j.ab.length→0≤s.g i∧s.g i+(j.ab.g i).aI≤100000
theorem Jc {j:cz} (F:eA j) {s:List Int} (T:Tm j s) {p:List Bool} {r:Nat} {m:Int}:∀(k i:Nat) (v:Int),i+k=j.ab.length→0≤v→v≤1000*i→fZ j (r:Int) p s m k i v=v+jW (fun q=>if p.g q=true then yl j s r m q else 0) k i
 | 0,i,v,h,a,b=>by rw[fZ,jW];omega
 | k+1,i,v,h,a,b=>by
   have hi:i<j.ab.length:=by omega
   have t:=T i hi
   have tk:=F.tk i hi
   have u:=P3 F hi (r:Int)
   have nt:=F.nt
   rw[fZ,jW,wrap_i64 (n:=s.g i+(j.ab.g i).aI) o! o!,wrap_i64 (n:=v+hF (j.ab.g i) (r:Int)) o! o!]
   have z:=Jc F T (p:=p) (r:=r) (m:=m) k (i+1) v o! a o!
   have y:=Jc F T (p:=p) (r:=r) (m:=m) k (i+1) (v+hF (j.ab.g i) (r:Int)) o! o! o!
   rw[y,z]
   cases hp:p.g i with
   | false=>rw[cond_false,if_neg (by simp)];omega
   | true=>
     rw[cond_true,if_pos rfl,yl]
     by_cases c1:s.g i≤m
     · rw[decide_eq_true c1,cond_true]
       by_cases c2:m<s.g i+(j.ab.g i).aI
       · rw[decide_eq_true c2,cond_true,if_pos ⟨c1,c2⟩];omega
       · rw[decide_eq_false c2,cond_false,if_neg fun e=>c2 e.2];omega
     · rw[decide_eq_false c1,cond_false,if_neg fun e=>c1 e.1];omega
theorem Zj {j:cz} (F:eA j) {s:List Int} (T:Tm j s) (p:List Bool) (r:Nat) (m:Int):gn j s p (r:Int) m=jW (fun q=>if p.g q=true then yl j s r m q else 0) j.ab.length 0:=by
 rw[gn,Jc F T _ _ _ o! o! o!];omega
theorem N9 {j:cz} (F:eA j) {s:List Int} {r:Nat} {m:Int} {i:Nat} (hi:i<j.ab.length):0≤yl j s r m i∧yl j s r m i≤1000:=by
 have:=P3 F hi (r:Int)
 unfold yl;split<;>omega
theorem VX {f:Nat→Int}:∀{k i:Nat},(∀q,i≤q→q<i+k→0≤f q∧f q≤1000)→0≤jW f k i∧jW f k i≤1000*k
 | 0,i,h=>⟨Int.le_refl _,Int.le_refl _⟩
 | k+1,i,h=>by
   have a:=h i (Nat.le_refl _) o!
   have b:=VX (f:=f) (k:=k) (i:=i+1) fun q x y=>h q o! o!
   rw[jW];omega
section
variable {j:cz} {s:List Int} {p:List Bool}
def NO (j:cz) (s:List Int) (i:Nat):Prop:=∀q,q<(j.ab.g i).az.length→¬s.g i<s.g (Int.toNat ((j.ab.g i).az.g q))+(j.ab.g (Int.toNat ((j.ab.g i).az.g q))).aI
def Ge (j:cz) (s:List Int) (i r:Nat) (m:Int):Int:=jW (fun q=>if q=i then 0 else yl j s r m q) j.ab.length 0
def RF (j:cz) (s:List Int) (i:Nat):Prop:=0<(j.ab.g i).aI→∀q,q<(j.ab.g i).ar.length→
 (∀o,o<(j.af.g (Int.toNat ((j.ab.g i).ar.g q).ah)).off.length→¬(((j.af.g (Int.toNat ((j.ab.g i).ar.g q).ah)).off.g o).a_<s.g i+(j.ab.g i).aI∧s.g i≤((j.af.g (Int.toNat ((j.ab.g i).ar.g q).ah)).off.g o).aN))∧
 Ge j s i (Int.toNat ((j.ab.g i).ar.g q).ah) (s.g i)+((j.ab.g i).ar.g q).ay≤(j.af.g (Int.toNat ((j.ab.g i).ar.g q).ah)).ay∧
 ∀k,k<j.ab.length→k≠i→s.g i<s.g k→s.g k<s.g i+(j.ab.g i).aI→Ge j s i (Int.toNat ((j.ab.g i).ar.g q).ah) (s.g k)+((j.ab.g i).ar.g q).ay≤(j.af.g (Int.toNat ((j.ab.g i).ar.g q).ah)).ay
theorem P4 (F:eA j) (T:Tm j s) {i:Nat} (hi:i<j.ab.length) (hp:∀q,q<j.ab.length→q≠i→p.g q=true):∀(k a:Nat),a+k=(j.ab.g i).az.length→
 (iX j (i:Int) p (s.g i) s k a=none∧∀q,a≤q→q<a+k→¬s.g i<s.g (Int.toNat ((j.ab.g i).az.g q))+(j.ab.g (Int.toNat ((j.ab.g i).az.g q))).aI)∨(iX j (i:Int) p (s.g i) s k a=some false∧∃q,q<(j.ab.g i).az.length∧s.g i<s.g (Int.toNat ((j.ab.g i).az.g q))+(j.ab.g (Int.toNat ((j.ab.g i).az.g q))).aI)
 | 0,a,h=> .inl ⟨rfl,fun q x y=>by omega⟩
 | k+1,a,h=>by
   have nb:=F.nb i hi a o!
   have ns:=Y9 F hi a o!
   have t:=T (Int.toNat ((j.ab.g i).az.g a)) o!
   have tk:=F.tk (Int.toNat ((j.ab.g i).az.g a)) o!
   rw[iX,Int.toNat_natCast,hp _ o! o!,cond_true,wrap_i64 (n:=s.g (Int.toNat ((j.ab.g i).az.g a))+(j.ab.g (Int.toNat ((j.ab.g i).az.g a))).aI) o! o!]
   by_cases c:s.g i<s.g (Int.toNat ((j.ab.g i).az.g a))+(j.ab.g (Int.toNat ((j.ab.g i).az.g a))).aI
   · rw[decide_eq_true c];exact .inr ⟨rfl,a,by omega,c⟩
   · rw[decide_eq_false c,cond_false]
     rcases P4 F T hi hp k (a+1) o! with ⟨e,f⟩ | g
     · refine .inl ⟨e,fun q x y=>?_⟩
       by_cases z:q=a
       · rw[z];exact c
       · exact f q o! o!
     · exact .inr g
theorem P5 (F:eA j) (T:Tm j s) {i:Nat} (hi:i<j.ab.length) {u:Nat}:∀(k a:Nat),
 (gP j (i:Int) u (s.g i) k a=none∧∀q,a≤q→q<a+k→¬(((j.af.g (Int.toNat ((j.ab.g i).ar.g u).ah)).off.g q).a_<s.g i+(j.ab.g i).aI∧s.g i≤((j.af.g (Int.toNat ((j.ab.g i).ar.g u).ah)).off.g q).aN))∨(gP j (i:Int) u (s.g i) k a=some false∧∃q,q<a+k∧(((j.af.g (Int.toNat ((j.ab.g i).ar.g u).ah)).off.g q).a_<s.g i+(j.ab.g i).aI∧s.g i≤((j.af.g (Int.toNat ((j.ab.g i).ar.g u).ah)).off.g q).aN))
 | 0,a=> .inl ⟨rfl,fun q x y=>by omega⟩
 | k+1,a=>by
   have t:=T i hi
   have tk:=F.tk i hi
   have ih:=P5 F T hi (u:=u) k (a+1)
   have rest:¬(((j.af.g (Int.toNat ((j.ab.g i).ar.g u).ah)).off.g a).a_<s.g i+(j.ab.g i).aI∧s.g i≤((j.af.g (Int.toNat ((j.ab.g i).ar.g u).ah)).off.g a).aN)→(gP j (i:Int) u (s.g i) k (a+1)=none∧∀q,a≤q→q<a+(k+1)→¬(((j.af.g (Int.toNat ((j.ab.g i).ar.g u).ah)).off.g q).a_<s.g i+(j.ab.g i).aI∧s.g i≤((j.af.g (Int.toNat ((j.ab.g i).ar.g u).ah)).off.g q).aN))∨(gP j (i:Int) u (s.g i) k (a+1)=some false∧∃q,q<a+(k+1)∧(((j.af.g (Int.toNat ((j.ab.g i).ar.g u).ah)).off.g q).a_<s.g i+(j.ab.g i).aI∧s.g i≤((j.af.g (Int.toNat ((j.ab.g i).ar.g u).ah)).off.g q).aN)):=fun c=>by
    rcases ih with ⟨e,f⟩ | ⟨e,q,x,y⟩
    · refine .inl ⟨e,fun q x y=>?_⟩
      by_cases z:q=a
      · rw[z];exact c
      · exact f q o! o!
    · exact .inr ⟨e,q,by omega,y⟩
   rw[gP,Int.toNat_natCast,wrap_i64 (n:=s.g i+(j.ab.g i).aI) o! o!]
   by_cases c1:((j.af.g (Int.toNat ((j.ab.g i).ar.g u).ah)).off.g a).a_<s.g i+(j.ab.g i).aI
   · rw[decide_eq_true c1,cond_true]
     by_cases c2:s.g i≤((j.af.g (Int.toNat ((j.ab.g i).ar.g u).ah)).off.g a).aN
     · rw[decide_eq_true c2];exact .inr ⟨rfl,a,by omega,c1,c2⟩
     · rw[decide_eq_false c2,cond_false];exact rest fun e=>c2 e.2
   · rw[decide_eq_false c1,cond_false];exact rest fun e=>c1 e.1
theorem N_ (F:eA j) {i r:Nat} {m:Int}:0≤Ge j s i r m∧Ge j s i r m≤64000:=by
 have:=VX (f:=fun q=>if q=i then 0 else yl j s r m q) (k:=j.ab.length) (i:=0) fun q _ h=>by
  split
  · decide
  · exact N9 F o!
 have nt:=F.nt
 unfold Ge;omega
theorem LV (F:eA j) (T:Tm j s) {i:Nat} (hi:i<j.ab.length) (hp:∀q,q<j.ab.length→q≠i→p.g q=true) (VY:p.g i=false) (r:Nat) (m:Int):gn j s p (r:Int) m=Ge j s i r m:=by
 rw[Zj F T,Ge]
 refine sL fun q _ h=>?_
 by_cases e:q=i
 · subst e;rw[if_pos rfl,VY];rfl
 · rw[if_neg e,hp q o! e];rfl
theorem P6 (F:eA j) (T:Tm j s) {i:Nat} (hi:i<j.ab.length) (hp:∀q,q<j.ab.length→q≠i→p.g q=true) (VY:p.g i=false) {u:Nat} (hu:u<(j.ab.g i).ar.length):∀(k a:Nat),a+k=j.ab.length→
 (eW j p (s.g i) s (i:Int) u k a=none∧∀q,a≤q→q<a+k→q≠i→s.g i<s.g q→s.g q<s.g i+(j.ab.g i).aI→Ge j s i (Int.toNat ((j.ab.g i).ar.g u).ah) (s.g q)+((j.ab.g i).ar.g u).ay≤(j.af.g (Int.toNat ((j.ab.g i).ar.g u).ah)).ay)∨
 (eW j p (s.g i) s (i:Int) u k a=some false∧∃q,q<j.ab.length∧q≠i∧s.g i<s.g q∧s.g q<s.g i+(j.ab.g i).aI∧¬Ge j s i (Int.toNat ((j.ab.g i).ar.g u).ah) (s.g q)+((j.ab.g i).ar.g u).ay≤(j.af.g (Int.toNat ((j.ab.g i).ar.g u).ah)).ay)
 | 0,a,h=> .inl ⟨rfl,fun q x y=>by omega⟩
 | k+1,a,h=>by
   have t:=T i hi
   have tk:=F.tk i hi
   have ur:=F.ur i hi u hu
   have um:=F.um i hi u hu
   have rm:=(F.rs (Int.toNat ((j.ab.g i).ar.g u).ah) o!).2.2
   have lb:=N_ F (s:=s) (i:=i) (r:=Int.toNat ((j.ab.g i).ar.g u).ah) (m:=s.g a)
   have ld:=LV F T hi hp VY (Int.toNat ((j.ab.g i).ar.g u).ah) (s.g a)
   rw[show ((Int.toNat ((j.ab.g i).ar.g u).ah:Nat):Int)=((j.ab.g i).ar.g u).ah by omega] at ld
   have ih:=P6 F T hi hp VY hu k (a+1) o!
   have rest:(a≠i→s.g i<s.g a→s.g a<s.g i+(j.ab.g i).aI→Ge j s i (Int.toNat ((j.ab.g i).ar.g u).ah) (s.g a)+((j.ab.g i).ar.g u).ay≤(j.af.g (Int.toNat ((j.ab.g i).ar.g u).ah)).ay)→(eW j p (s.g i) s (i:Int) u k (a+1)=none∧∀q,a≤q→q<a+(k+1)→q≠i→s.g i<s.g q→s.g q<s.g i+(j.ab.g i).aI→Ge j s i (Int.toNat ((j.ab.g i).ar.g u).ah) (s.g q)+((j.ab.g i).ar.g u).ay≤(j.af.g (Int.toNat ((j.ab.g i).ar.g u).ah)).ay)∨
    (eW j p (s.g i) s (i:Int) u k (a+1)=some false∧∃q,q<j.ab.length∧q≠i∧s.g i<s.g q∧s.g q<s.g i+(j.ab.g i).aI∧¬Ge j s i (Int.toNat ((j.ab.g i).ar.g u).ah) (s.g q)+((j.ab.g i).ar.g u).ay≤(j.af.g (Int.toNat ((j.ab.g i).ar.g u).ah)).ay):=fun c=>by
    rcases ih with ⟨e,f⟩ | g
    · refine .inl ⟨e,fun q x y=>?_⟩
      by_cases z:q=a
      · rw[z];exact c
      · exact f q o! o!
    · exact .inr g
   rw[eW,Int.toNat_natCast,wrap_i64 (n:=s.g i+(j.ab.g i).aI) o! o!,ld,wrap_i64 (n:=Ge j s i (Int.toNat ((j.ab.g i).ar.g u).ah) (s.g a)+((j.ab.g i).ar.g u).ay) o! o!]
   by_cases e:a=i
   · subst e;rw[VY,cond_false];exact rest fun z=>absurd rfl z
   · rw[hp a o! e,cond_true]
     by_cases c1:s.g i<s.g a
     · rw[decide_eq_true c1,cond_true]
       by_cases c2:s.g a<s.g i+(j.ab.g i).aI
       · rw[decide_eq_true c2,cond_true]
         by_cases c3:(j.af.g (Int.toNat ((j.ab.g i).ar.g u).ah)).ay<Ge j s i (Int.toNat ((j.ab.g i).ar.g u).ah) (s.g a)+((j.ab.g i).ar.g u).ay
         · rw[decide_eq_true c3];exact .inr ⟨rfl,a,by omega,e,c1,c2,by omega⟩
         · rw[decide_eq_false c3,cond_false];exact rest fun _ _ _=>by omega
       · rw[decide_eq_false c2,cond_false];exact rest fun _ _ z=>absurd z c2
     · rw[decide_eq_false c1,cond_false];exact rest fun _ z=>absurd z c1
def RU (j:cz) (s:List Int) (i u:Nat):Prop:=
 (∀o,o<(j.af.g (Int.toNat ((j.ab.g i).ar.g u).ah)).off.length→¬(((j.af.g (Int.toNat ((j.ab.g i).ar.g u).ah)).off.g o).a_<s.g i+(j.ab.g i).aI∧s.g i≤((j.af.g (Int.toNat ((j.ab.g i).ar.g u).ah)).off.g o).aN))∧
 Ge j s i (Int.toNat ((j.ab.g i).ar.g u).ah) (s.g i)+((j.ab.g i).ar.g u).ay≤(j.af.g (Int.toNat ((j.ab.g i).ar.g u).ah)).ay∧
 ∀k,k<j.ab.length→k≠i→s.g i<s.g k→s.g k<s.g i+(j.ab.g i).aI→Ge j s i (Int.toNat ((j.ab.g i).ar.g u).ah) (s.g k)+((j.ab.g i).ar.g u).ay≤(j.af.g (Int.toNat ((j.ab.g i).ar.g u).ah)).ay
theorem P7 (F:eA j) (T:Tm j s) {i:Nat} (hi:i<j.ab.length) (hp:∀q,q<j.ab.length→q≠i→p.g q=true) (VY:p.g i=false) (ht:0<(j.ab.g i).aI):∀(k a:Nat),a+k=(j.ab.g i).ar.length→
 (f_ j (i:Int) (s.g i) s p k a=none∧∀u,a≤u→u<a+k→RU j s i u)∨(f_ j (i:Int) (s.g i) s p k a=some false∧∃u,u<(j.ab.g i).ar.length∧¬RU j s i u)
 | 0,a,h=> .inl ⟨rfl,fun q x y=>by omega⟩
 | k+1,a,h=>by
   have hu:a<(j.ab.g i).ar.length:=by omega
   have ur:=F.ur i hi a hu
   have um:=F.um i hi a hu
   have rm:=(F.rs (Int.toNat ((j.ab.g i).ar.g a).ah) o!).2.2
   have lb:=N_ F (s:=s) (i:=i) (r:=Int.toNat ((j.ab.g i).ar.g a).ah) (m:=s.g i)
   have ld:=LV F T hi hp VY (Int.toNat ((j.ab.g i).ar.g a).ah) (s.g i)
   rw[show ((Int.toNat ((j.ab.g i).ar.g a).ah:Nat):Int)=((j.ab.g i).ar.g a).ah by omega] at ld
   rw[f_,Int.toNat_natCast,decide_eq_true ht,cond_true,ld,wrap_i64 (n:=Ge j s i (Int.toNat ((j.ab.g i).ar.g a).ah) (s.g i)+((j.ab.g i).ar.g a).ay) o! o!]
   rcases P5 F T hi (u:=a) (j.af.g (Int.toNat ((j.ab.g i).ar.g a).ah)).off.length 0 with ⟨e2,f2⟩ | ⟨e2,o,x,y⟩
   · rw[e2]
     by_cases c:(j.af.g (Int.toNat ((j.ab.g i).ar.g a).ah)).ay<Ge j s i (Int.toNat ((j.ab.g i).ar.g a).ah) (s.g i)+((j.ab.g i).ar.g a).ay
     · rw[decide_eq_true c];exact .inr ⟨rfl,a,hu,fun z=>by have:=z.2.1;omega⟩
     · rw[decide_eq_false c]
       rcases P6 F T hi hp VY hu j.ab.length 0 o! with ⟨e3,f3⟩ | ⟨e3,q,x1,x2,x3,x4,x5⟩
       · rw[e3]
         rcases P7 F T hi hp VY ht k (a+1) o! with ⟨e,f⟩ | g
         · refine .inl ⟨e,fun u x y=>?_⟩
           by_cases z:u=a
           · rw[z]
             exact ⟨fun o ho=>f2 o (Nat.zero_le _) o!,by omega,fun k' Fs=>f3 k' (Nat.zero_le _) o!⟩
           · exact f u o! o!
         · exact .inr g
       · rw[e3];exact .inr ⟨rfl,a,hu,fun z=>x5 (z.2.2 q x1 x2 x3 x4)⟩
   · rw[e2];exact .inr ⟨rfl,a,hu,fun z=>z.1 o o! y⟩
theorem VZ {i:Nat} {x:Int} (ht:¬0<(j.ab.g i).aI):∀k a,f_ j (i:Int) x s p k a=none
 | 0,a=>rfl
 | k+1,a=>by rw[f_,Int.toNat_natCast,decide_eq_false ht];rfl
theorem P9 (F:eA j) (T:Tm j s) {i:Nat} (hi:i<j.ab.length) (hp:∀q,q<j.ab.length→q≠i→p.g q=true) (VY:p.g i=false):iZ j s p (i:Int) (s.g i)=true↔NO j s i∧RF j s i:=by
 have t:=T i hi
 have tk:=F.tk i hi
 rw[iZ,cD,decide_eq_true t.1,cond_true,decide_eq_true (show s.g i≤100000 by omega),Int.toNat_natCast,wrap_i64 (n:=s.g i+(j.ab.g i).aI) o! o!,decide_eq_false (show ¬100000<s.g i+(j.ab.g i).aI by omega)]
 rw[Bool.not_true,cond_false,cond_false]
 rcases P4 F T hi hp _ 0 (Nat.zero_add _) with ⟨e,f⟩ | ⟨e,q,x,y⟩
 · rw[e]
   have no:NO j s i:=fun q hq=>f q (Nat.zero_le _) o!
   by_cases ht:0<(j.ab.g i).aI
   · rcases P7 F T hi hp VY ht _ 0 (Nat.zero_add _) with ⟨e1,f1⟩ | ⟨e1,u,x,y⟩
     · rw[e1];exact ⟨fun _=>⟨no,fun _ u hu=>f1 u (Nat.zero_le _) o!⟩,fun _=>rfl⟩
     · rw[e1];exact ⟨(fun z=>by cases z),fun z=>absurd (z.2 ht u x) y⟩
   · rw[VZ ht];exact ⟨fun _=>⟨no,fun z=>absurd z ht⟩,fun _=>rfl⟩
 · rw[e];exact ⟨(fun z=>by cases z),fun z=>absurd y (z.1 q x)⟩
theorem V0 (F:eA j) {i:Nat} (hi:i<j.ab.length) {x:Int} (h:¬(0≤x∧x+(j.ab.g i).aI≤100000)):iZ j s p (i:Int) x=false:=by
 have tk:=F.tk i hi
 rw[iZ,cD,Int.toNat_natCast]
 by_cases a:0≤x
 · rw[decide_eq_true a,cond_true]
   by_cases b:x≤100000
   · rw[decide_eq_true b,Bool.not_true,cond_false,wrap_i64 (n:=x+(j.ab.g i).aI) o! o!,decide_eq_true (show 100000<x+(j.ab.g i).aI by omega)];rfl
   · rw[decide_eq_false b];rfl
 · rw[decide_eq_false a];rfl
theorem EV {a:List Bool} {i q:Nat} {b:Bool}:(a.set i b).g q=if i=q∧q<a.length then b else a.g q:=by
 by_cases e:i=q
 · subst e
   by_cases h:i<a.length
   · rw[if_pos ⟨rfl,h⟩,List.g,List.getD_eq_getElem?_getD,List.getElem?_set_self h];rfl
   · rw[if_neg fun z=>h z.2,List.g,List.g,List.getD_eq_getElem?_getD,List.getD_eq_getElem?_getD,List.getElem?_eq_none (by rw[List.length_set];omega),List.getElem?_eq_none o!]
 · rw[if_neg fun z=>e z.1,List.g,List.g,List.getD_eq_getElem?_getD,List.getD_eq_getElem?_getD,List.getElem?_set_ne e]
theorem aaL:∀(k i:Nat) (a:List Bool),a.length=j.ab.length→i+k=j.ab.length→(∀q,q<i→a.g q=true)→(iC j k i a).length=j.ab.length∧∀q,q<j.ab.length→(iC j k i a).g q=true
 | 0,i,a,hl,h,hq=>⟨hl,fun q x=>hq q o!⟩
 | k+1,i,a,hl,h,hq=>by
   rw[iC]
   refine aaL k (i+1) _ (by rw[List.length_set];exact hl) o! fun q x=>?_
   rw[EV]
   split
   · rfl
   · exact hq q o!
theorem aaM:∀(k i:Nat) (a:List Bool),a.length=j.ab.length→i+k=j.ab.length→(∀q,q<j.ab.length→a.g q=true)→
 ((∃b,jH j s k i a=Sum.inl b)∧∀q,i≤q→q<i+k→∃p:List Bool,(∀x,x<j.ab.length→x≠q→p.g x=true)∧p.g q=false∧iZ j s p (q:Int) (s.g q)=true)∨(jH j s k i a=Sum.inr false∧∃q p,q<j.ab.length∧(∀x,x<j.ab.length→x≠q→p.g x=true)∧p.g q=false∧iZ j s p (q:Int) (s.g q)=false)
 | 0,i,a,hl,h,hq=> .inl ⟨⟨a,rfl⟩,fun q x y=>by omega⟩
 | k+1,i,a,hl,h,hq=>by
   have p1:∀x,x<j.ab.length→x≠i→(a.set i false).g x=true:=fun x hx hn=>by rw[EV,if_neg fun z=>hn z.1.symm];exact hq x hx
   have p2:(a.set i false).g i=false:=by rw[EV,if_pos ⟨rfl,by omega⟩]
   rw[jH]
   cases e:iZ j s (a.set i false) (i:Int) (s.g i) with
   | false=>exact .inr ⟨rfl,i,a.set i false,by omega,p1,p2,e⟩
   | true=>
     rw[Bool.not_true,cond_false]
     rcases aaM k (i+1) ((a.set i false).set i true) (by rw[List.length_set,List.length_set];exact hl) o! (fun q x=>by
      rw[EV]
      split
      · rfl
      · rename_i z
        rw[EV,if_neg fun w=>z ⟨w.1,by rw[List.length_set];exact w.2⟩];exact hq q x) with ⟨e1,f⟩ | g
     · refine .inl ⟨e1,fun q x y=>?_⟩
       by_cases z:q=i
       · rw[z];exact ⟨_,p1,p2,e⟩
       · exact f q o! o!
     · exact .inr g
theorem RW (F:eA j) (hl:s.length=j.ab.length):nU j s=true↔Tm j s∧∀i,i<j.ab.length→NO j s i∧RF j s i:=by
 obtain ⟨l1,l2⟩:=aaL (j:=j) j.ab.length 0 (List.replicate j.ab.length false) (by rw[List.length_replicate]) o! fun q h=>by omega
 rw[nU]
 rcases aaM (s:=s) j.ab.length 0 _ l1 o! l2 with ⟨⟨b,e⟩,f⟩ | ⟨e,q,p,hq,p1,p2,g⟩
 · rw[e]
   have T:Tm j s:=fun i hi=>by
    obtain ⟨p,p1,p2,g⟩:=f i (Nat.zero_le _) o!
    by_cases z:0≤s.g i∧s.g i+(j.ab.g i).aI≤100000
    · exact z
    · rw[V0 F hi z] at g;cases g
   refine ⟨fun _=>⟨T,fun i hi=>?_⟩,fun _=>rfl⟩
   obtain ⟨p,p1,p2,g⟩:=f i (Nat.zero_le _) o!
   exact (P9 F T hi p1 p2).1 g
 · rw[e]
   refine ⟨(fun z=>by cases z),fun ⟨T,z⟩=>?_⟩
   rw[(P9 F T hq p1 p2).2 (z q hq)] at g;cases g
end
noncomputable def Jd:Code:=(Tryz.f8.body).getD .skip
theorem vR:Tryz.f8.body=some Jd:=by kernel_rfl
def bG (j:cz):Int:=(bif (!decide ((bz j.af 16 (fun jx=>bw (List.take jx j.af) (List.g j.af jx)))=0)) then (bz j.af 16 (fun jx=>bw (List.take jx j.af) (List.g j.af jx))) else (bif (!decide ((bK j.ab 64 (fun jx=>eK (List.take jx j.ab) (List.g j.ab jx) j))=0)) then (bK j.ab 64 (fun jx=>eK (List.take jx j.ab) (List.g j.ab jx) j)) else (bif (decide ((((dh j.ab).length:Nat):Int)<((j.ab.length:Nat):Int))) then 11 else 0)))
theorem Ba {d:Nat} {h:au} (j:cz) (bH:aL.ok h j) (bW:Tidy h):cR (d+11) (.fn 8) [(AV.agg [j.aj,j.ag])] h= .ret (Zi (bG j)) h:=by
 have dP:=bH.1.small
 have dQ:=bH.2.small
 obtain ⟨h1,bM,cx,jc,aQ,cA⟩:=j_ bW (aM.cells [j.aj,j.ag] 25 false)
 have bt:Has h h1:=cA
 have k2:=tJ (d:=d+9) j.af 16 (fun jx=>bw (List.take jx j.af) (List.g j.af jx)) (bH.2.has bt) (fun jx hj aV hh yy aa fa=>zH (d:=d+3) (List.take jx j.af) (List.g j.af jx) fa (aL.mono aa ((bH.2.has bt).ok hj)) yy) cx
 rcases Bool.eq_false_or_eq_true (!decide ((bz j.af 16 (fun jx=>bw (List.take jx j.af) (List.g j.af jx)))=0)) with f0 | f0
 · have dO:=BI f0
   have e:bG j=(bz j.af 16 (fun jx=>bw (List.take jx j.af) (List.g j.af jx))):=by simp only[bG,f0,cond_true,cond_false]
   rw[e]
   exact aD rfl (bb Tryz.func8 vR rfl (.inr rfl) (pk (d+10) _ _ h _ h1 (NN bM (fun i=>(Pt i))<|CN 2<|MM (aw 23 1 j.ag aQ k!)<|EE k2<|CN 2<|VV (eu 29 false true .i64 (bz j.af 16 (fun jx=>bw (List.take jx j.af) (List.g j.af jx))) 0)<|BB f0<|CN 2<|ZZ) k!) k!) bt rfl
 · have dO:=BJ f0
   have k4:=zE (d:=d+9) j.ab 64 (fun jx=>eK (List.take jx j.ab) (List.g j.ab jx) j) (bH.1.has bt) (fun jx hj aV hh yy aa fa=>NH (d:=d) (List.take jx j.ab) (List.g j.ab jx) j h.nx fa (aL.mono aa ((bH.1.has bt).ok hj)) (aL.mono aa (aL.mono bt bH)) (aa _ _ aQ) yy) cx
   rcases Bool.eq_false_or_eq_true (!decide ((bK j.ab 64 (fun jx=>eK (List.take jx j.ab) (List.g j.ab jx) j))=0)) with f1 | f1
   · have dC:=BI f1
     have e:bG j=(bK j.ab 64 (fun jx=>eK (List.take jx j.ab) (List.g j.ab jx) j)):=by simp only[bG,f0,f1,cond_true,cond_false]
     rw[e]
     exact aD rfl (bb Tryz.func8 vR rfl (.inr rfl) (pk (d+10) _ _ h _ h1 (NN bM (fun i=>(Pt i))<|CN 2<|MM (aw 23 1 j.ag aQ k!)<|EE k2<|CN 2<|VV (eu 29 false true .i64 (bz j.af 16 (fun jx=>bw (List.take jx j.af) (List.g j.af jx))) 0)<|BC f0<|MM (aw 22 0 j.aj aQ k!)<|CC<|EE k4<|CN 2<|VV (eu 29 false true .i64 (bK j.ab 64 (fun jx=>eK (List.take jx j.ab) (List.g j.ab jx) j)) 0)<|BB f1<|CN 2<|ZZ) k!) k!) bt rfl
   · have dC:=BJ f1
     have JG:b6 (some (.slice 44)) (some j.aj)=some (Zn j.ab.length):=bH.1.len
     obtain ⟨z7,h9,FQ,eh,fz8,ah4⟩:=BU (d:=d+4) j.ab (bH.1.has bt) (by first | omega | assumption | exact sE (by assumption) | exact BX (by assumption)) (by first | omega | assumption | exact sE (by assumption) | exact BX (by assumption)) cx
     have nz:=eh.y
     have FN:h1.nx≤h9.nx:=eh.n
     have hZ:Has h h9:=bt.trans eh.a
     have afU:=fz8.small
     have oS:b6 (some (.slice 3)) (some z7)=some (Zn ((dh j.ab).length)):=fz8.len
     have P_:AV.same 20 j.aj j.aj=true:=bH.1.same 19
     rcases Bool.eq_false_or_eq_true (decide ((((dh j.ab).length:Nat):Int)<((j.ab.length:Nat):Int))) with f2 | f2
     · have jw:=of_decide_eq_true f2
       have e:bG j=11:=by simp only[bG,f0,f1,f2,cond_true,cond_false]
       rw[e]
       exact aD rfl (bb Tryz.func8 vR rfl (.inr rfl) (pk (d+10) _ _ h _ h9 (NN bM (fun i=>(Pt i))<|CN 2<|MM (aw 23 1 j.ag aQ k!)<|EE k2<|CN 2<|VV (eu 29 false true .i64 (bz j.af 16 (fun jx=>bw (List.take jx j.af) (List.g j.af jx))) 0)<|BC f0<|MM (aw 22 0 j.aj aQ k!)<|CC<|EE k4<|CN 2<|VV (eu 29 false true .i64 (bK j.ab 64 (fun jx=>eK (List.take jx j.ab) (List.g j.ab jx) j)) 0)<|BC f1<|MM (aw 22 0 j.aj aQ k!)<|CC<|MM (aw 22 0 j.aj aQ k!)<|VV JG<|EE FQ<|VV oS<|VV (ba 3 false false .i64 (((dh j.ab).length:Nat):Int) ((j.ab.length:Nat):Int))<|HH (aw 22 0 j.aj aQ k!)<|HH P_<|HH (aw 22 0 j.aj aQ k!)<|HH P_<|HH (aw 22 0 j.aj (eh.a _ _ aQ) k!)<|HH P_<|BC f2<|ZZ) k!) k!) hZ rfl
     · have jw:=of_decide_eq_false f2
       have e:bG j=0:=by simp only[bG,f0,f1,f2,cond_true,cond_false]
       rw[e]
       exact aD rfl (bb Tryz.func8 vR rfl (.inr rfl) (pk (d+10) _ _ h _ h9 (NN bM (fun i=>(Pt i))<|CN 2<|MM (aw 23 1 j.ag aQ k!)<|EE k2<|CN 2<|VV (eu 29 false true .i64 (bz j.af 16 (fun jx=>bw (List.take jx j.af) (List.g j.af jx))) 0)<|BC f0<|MM (aw 22 0 j.aj aQ k!)<|CC<|EE k4<|CN 2<|VV (eu 29 false true .i64 (bK j.ab 64 (fun jx=>eK (List.take jx j.ab) (List.g j.ab jx) j)) 0)<|BC f1<|MM (aw 22 0 j.aj aQ k!)<|CC<|MM (aw 22 0 j.aj aQ k!)<|VV JG<|EE FQ<|VV oS<|VV (ba 3 false false .i64 (((dh j.ab).length:Nat):Int) ((j.ab.length:Nat):Int))<|HH (aw 22 0 j.aj aQ k!)<|HH P_<|HH (aw 22 0 j.aj aQ k!)<|HH P_<|HH (aw 22 0 j.aj (eh.a _ _ aQ) k!)<|HH P_<|BC f2<|ZZ) k!) k!) hZ rfl
noncomputable def Je:Code:=(Tryz.f74.body).getD .skip
theorem RX:Tryz.f74.body=some Je:=by kernel_rfl
def cV (j:cz) (ai:List Int) (task:Int):Int:=(IntKind.i64.wrap ((ai.g task.toNat)+((j.ab.g task.toNat).aI)))
theorem rL {d:Nat} {h:au} {ax:AV} (j:cz) (ai:List Int) (task:Int) (bH:aL.ok h j) (bm:b_ h .i64 3 ax ai) (lI:0≤task) (oL:task<(ai.length:Int)) (D2:task<(j.ab.length:Int)) (bW:Tidy h):cR (d+1) (.fn 74) [(AV.agg [j.aj,j.ag]),ax,(Zi task)] h= .ret (Zi (cV j ai task)) h:=by
 have fG:=bm.small
 have dP:=bH.1.small
 have dQ:=bH.2.small
 obtain ⟨h1,bM,cx,jc,aQ,cA⟩:=j_ bW (aM.cells [j.aj,j.ag] 25 false)
 have bt:Has h h1:=cA
 obtain ⟨p3,q4,cX,_⟩:=bm.elem (i:=task.toNat) o!
 have gv:bS env (some (.slice 3)) (some ax) (some (Zi task))=some (AV.ptr p3 q4):=by rw[show (task:Int)=((task.toNat:Nat):Int) by omega];exact cX
 have g5:bh env h1 3 (AV.ptr p3 q4)=some (Zi (ai.g task.toNat)):=(bm.has bt).load o! cX
 obtain ⟨p7,q8,vm⟩:=bH.1.elem (i:=task.toNat) o!
 have BN:bS env (some (.slice 44)) (some j.aj) (some (Zi task))=some (AV.ptr p7 q8):=by rw[show (task:Int)=((task.toNat:Nat):Int) by omega];exact vm
 have xX:bh env h1 3 (AV.ptr p7 (q8+1))=some (Zi ((j.ab.g task.toNat).aI)):=(bH.1.has bt).part (t:=3) (j:=1) o! vm k! rfl
 have I':AV.same 20 j.aj j.aj=true:=bH.1.same 19
 have e:cV j ai task=(IntKind.i64.wrap ((ai.g task.toNat)+((j.ab.g task.toNat).aI))):=by simp only[cV,cond_true,cond_false]
 rw[e]
 exact aD rfl (bb Tryz.func74 RX rfl (.inr rfl) (pk (d) _ _ h _ h1 (NN bM (fun i=>(Pt i))<|CN 3<|VV gv<|MM g5<|CC<|MM (aw 22 0 j.aj aQ k!)<|CC<|VV BN<|CC<|MM xX<|CN 2<|HH g5<|HH (show AV.same 20 (Zi (ai.g task.toNat)) (Zi (ai.g task.toNat))=true from aJ 19 _ _)<|HH (aw 22 0 j.aj aQ k!)<|HH I'<|HH xX<|HH (show AV.same 20 (Zi ((j.ab.g task.toNat).aI)) (Zi ((j.ab.g task.toNat).aI))=true from aJ 19 _ _)<|ZZ) k!) k!) bt rfl
end Go.Proofs.aP
