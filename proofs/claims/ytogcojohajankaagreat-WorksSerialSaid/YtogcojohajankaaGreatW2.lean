import Derived.Test.YtogcojohajankaaGreatW1
import Derived.Test.YtogcojohajankaaGreatW0
namespace Go.Proofs.aJ
open Go.Proofs Ab
set_option maxRecDepth 100000
set_option maxHeartbeats 4000000
set_option linter.unusedVariables false
set_option linter.unusedSimpArgs false
theorem Nw {nx:Nat} {a b z:AV} {cs:List AV} (h:AV.within nx 20 (.agg (a::b::z::cs))=true):AV.within nx (18+1) z=true:=by
 simp only[AV.within,List.all_cons,Bool.and_eq_true] at h
 exact h.2.2.1
theorem Xv {A:List Tl} {u:List jH} {v:Int} {t:Tl} {n:Int} (ur:∀q,q<u.length→0≤(u.g q).ah∧(u.g q).ah<n) (ud:∀a,a<u.length→∀b,a<b→b<u.length→(u.g a).ah≠(u.g b).ah) (h0:0≤v) (hv:v<(u.length:Int)) (hi:∀q:Nat,v≤(q:Int)→q<u.length→Az 159 (A.g (Int.toNat (u.g q).ah))):∀q:Nat,v+1≤(q:Int)→q<u.length→Az 159 ((A.set (Int.toNat (u.g (Int.toNat v)).ah) t).g (Int.toNat (u.g q).ah)):=fun q hq hl=>by
 have a:=ur (Int.toNat v) o!
 have b:=ur q hl
 have c:=ud (Int.toNat v) o! q o! hl
 rw[Cc o!]
 exact hi q o! hl
theorem De {pieces:Int} {t:List Int} {s:Span} (h1:(bz ((bz t s.bl).2) (s.aN+1)).1≤161):∀(kq:Nat) (v:Int) (a:List Int),0≤v→a.length=324→(fw pieces t s kq v a).length=324∧(fw pieces t s kq v a).g 322=a.g 322∧(fw pieces t s kq v a).g 323=a.g 323∧(fw pieces t s kq v a).g 0=a.g 0
 | 0,v,a,hv,ha=>by rw[fw];exact ⟨ha,rfl,rfl,rfl⟩
 | kq+1,v,a,hv,ha=>by
   rw[fw]
   by_cases f:v<(bz ((bz t s.bl).2) (s.aN+1)).1
   · rw[decide_eq_true f,cond_true]
     obtain ⟨b1,b2,b3,b4⟩:=De h1 kq (v+1) (a.set ((Int.toNat v)*2+1) (IntKind.i64.wrap ((a.g ((Int.toNat v)*2+1))+pieces))) o! (by rw[List.length_set];exact ha)
     exact ⟨b1,by rw[b2,bj o!],by rw[b3,bj o!],by rw[b4,bj o!]⟩
   · rw[decide_eq_false f,cond_false];exact ⟨ha,rfl,rfl,rfl⟩
theorem AD (t:List Int) (s:Span) (p:Int) (ln:t.length=324) (p0:1≤t.g 322) (p1:t.g 322≤159) (p2:t.g 0=0) (p3:0≤s.bl) (p4:s.aN≤100000000):1≤(eS t s p).g 322∧(eS t s p).g 322≤t.g 322+2∧(eS t s p).g 0=0∧(eS t s p).g 323=t.g 323∧(eS t s p).length=324:=by
 rw[eS]
 by_cases f:s.aN<s.bl
 · rw[decide_eq_true f,cond_true];exact ⟨p0,by omega,p2,rfl,ln⟩
 · rw[decide_eq_false f,cond_false]
   obtain ⟨a1,a2,a3,a4,a5,a6,a7⟩:=Aw t s.bl ln p0 o! p2 p3
   obtain ⟨c1,c2,c3,c4,c5,c6,c7⟩:=Aw (bz t s.bl).2 (s.aN+1) a7 o! o! a5 o!
   obtain ⟨b1,b2,b3,b4⟩:=De (pieces:=p) (t:=t) (s:=s) o! (Int.toNat (((bz ((bz t s.bl).2) (s.aN+1)).1) -((bz t s.bl).1))) ((bz t s.bl).1) ((bz ((bz t s.bl).2) (s.aN+1)).2) a1 c7
   exact ⟨by omega,by omega,by omega,by omega,b1⟩
theorem xX (aB:Int):(cH aB).g 322=1∧(cH aB).g 0=0∧(cH aB).length=324∧(cH aB).g 323=aB:=⟨rfl,rfl,rfl,rfl⟩
theorem ma {p:Prop} (h:p:=by first | omega | exact ro_.2.1 | (dsimp only;omega)):p:=h
theorem rv {p:Prop} (h:p:=by first | assumption | exact hG ct o!):p:=h
noncomputable def pf:Code:=(Tryz.f17.body).getD .skip
theorem KR:Tryz.f17.body=some pf:=by kernel_rfl
noncomputable def FT:Code:=(bw pf).getD 0 .skip
noncomputable def FU:Code:=(bw pf).getD 1 .skip
def c9 (j:cG) (i0:Nat):Nat→Int→List Int→List Int
 | 0,fO,jI=>jI
 | nH+1,fO,jI=>(bif (decide (fO<((((j.af.g i0).off).length:Nat):Int))) then c9 j i0 nH (fO+1) (eS jI (((j.af.g i0).off).g fO.toNat) ((j.af.g i0).aB)) else jI)
theorem uA {d:Nat} {h:aw} (j:cG) (i0:Nat) (Uc:List AV) (Xw:List AV) (d_:Nat) (gV:Nat) (sg:Nat) (Cd:Nat) (qj:Nat) (ako:Nat) (db:aM h j.ai j.af) (ft:aM h ((j.af.g i0).dp) ((j.af.g i0).off)) (nI:((j.af.g i0).name).length<2^60) (oJ:aG.ok h j) (HN:aG.ok h (j.af.g i0)) (AE:i0<j.af.length) (mP:∀r,r<j.af.length→(j.af.g r).off.length≤16∧∀q,q<(j.af.g r).off.length→0≤((j.af.g r).off.g q).bl∧((j.af.g r).off.g q).aN≤100000) (qJ:j.af.length≤16) (ry:j.ab.length≤100000) (xz:Uc.length=0) (ct:Tidy h) (aeM:h.get sg=none) (akp:h.get Cd=none) (aeN:Cd≠sg):∀(k_:Nat) (fO:Int) (jI:List Int) (_:((((j.af.g i0).off).length:Nat):Int) - fO≤(k_:Int)) (_:(((0:Int)≤1)∧(0≤fO∧1≤(jI).g 322∧(jI).g 322≤1+2*fO∧(jI).g 0=0))) (x:Nat→AV) (hh:aw) (aA:Tidy hh) (ay:Has h hh) (ij:h.nx≤hh.nx) (Nx:jI.length=324) (cN:hh.get sg=some (aH.cells [(AV.str ((j.af.g i0).name)),(Zi ((j.af.g i0).aB)),((j.af.g i0).dp)] 36 false)) (eh:hh.get Cd=some (aH.cells (Uc++zs .i64 jI++Xw) 127 false)),cA (σ:=List Int) (ρ:=Unit) (cU (d+2)) FU ⟨((x 0)::(x 1)::(Pt d_)::(Pt gV)::(x 4)::(Pt sg)::(Pt Cd)::rx x 7 13 (j.ai::(Zn j.af.length)::(Zn i0)::rx x 23 7 (((j.af.g i0).dp)::(Zn (((j.af.g i0).off).length))::(Zi fO)::rx x 33 16 []))),hh,[],.no⟩ (.exit 2) hh (fun r z y=>((y 0)::(y 1)::(Pt d_)::(Pt gV)::(y 4)::(Pt sg)::(Pt Cd)::rx y 7 13 (j.ai::(Zn j.af.length)::(Zn i0)::rx y 23 7 (((j.af.g i0).dp)::(Zn (((j.af.g i0).off).length))::rx y 32 17 [])))) (fun r z y=>((y 0)::(y 1)::(Pt d_)::(Pt gV)::(y 4)::(Pt sg)::(Pt Cd)::rx y 7 13 (j.ai::(Zn j.af.length)::(Zn i0)::rx y 23 7 (((j.af.g i0).dp)::(Zn (((j.af.g i0).off).length))::rx y 32 17 [])))) (fun r z hk=>Has h hk∧hk.get sg=some (aH.cells [(AV.str ((j.af.g i0).name)),(Zi ((j.af.g i0).aB)),((j.af.g i0).dp)] 36 false)∧hk.get Cd=some (aH.cells (Uc++zs .i64 r++Xw) 127 false)∧r.length=324∧((0:Int)≤1)) (fun r z hk=>Has h hk) (Sum.inl (c9 j i0 k_ fO jI))
 | 0,fO,jI,gq,fV,x,hh,aA,ay,ij,Nx,cN,eh=>by
   have ik:=db.small
   have jY:=ft.small
   have tG:=aA _ _ cN
   have FV:=aA _ _ eh
   have rl_:=(mP i0 o!).1
   have ro_:=(mP i0 o!).2 fO.toNat
   have q1:(decide (fO<((((j.af.g i0).off).length:Nat):Int)))=false:=d!
   exact cA.out jI AV.undef rfl (pk (d+2) _ _ hh _ hh (VV (bO 3 false false .i64 fO ((((j.af.g i0).off).length:Nat):Int))<|BB q1<|ZZ) k!) aA o! ⟨ay,cN,eh,l!,(show ((0:Int)≤1) from o!)⟩ k!
 | nH+1,fO,jI,gq,fV,x,hh,aA,ay,ij,Nx,cN,eh=>by
   have ik:=db.small
   have jY:=ft.small
   have tG:=aA _ _ cN
   have FV:=aA _ _ eh
   have rl_:=(mP i0 o!).1
   have ro_:=(mP i0 o!).2 fO.toNat
   have dR:=fun {al ps} (k:Pk al _ ps)=>(VV (bO 3 false false .i64 fO ((((j.af.g i0).off).length:Nat):Int))<|k:Pk _ [] ps)
   rcases Bool.eq_false_or_eq_true (decide (fO<((((j.af.g i0).off).length:Nat):Int))) with f0 | f0
   · have dx:=of_decide_eq_true f0
     obtain ⟨p3,q4,cF⟩:=ft.elem (i:=fO.toNat) o!
     have jL:bR env (some (.slice 70)) (some ((j.af.g i0).dp)) (some (Zi fO))=some (AV.ptr p3 q4):=by rw[show (fO:Int)=((fO.toNat:Nat):Int) by omega];exact cF
     have j9:aY env hh 70 (AV.ptr p3 q4)=some (AV.agg [(Zi ((((j.af.g i0).off).g fO.toNat).bl)),(Zi ((((j.af.g i0).off).g fO.toNat).aN))]):=(ft.has ay).load o! cF
     obtain ⟨h6,nU,kM,Ce,nV,cE⟩:=kh aA (aH.cells [(Zi 0),(Zi 0)] 70 false)
     have jA:Has h h6:=ay.trans cE
     obtain ⟨h7,m8,eO,xA,f_,bD⟩:=qi (t:=70) (n:=2) (i:=hh.nx) (L:=[(Zi ((((j.af.g i0).off).g fO.toNat).bl)),(Zi ((((j.af.g i0).off).g fO.toNat).aN))]) kM nV k! rfl rfl (by simp only[AV.cells,List.all_cons,List.all_nil,Bool.and_true,Bool.and_self,iE,gd,iF,iG,eP,lF,lG,lH,lI,lJ,iH])
     have du:Has h h7:=Has.ei jA bD ct o!
     obtain ⟨Xx,FW,PV,yT,yU,ks⟩:=dO eO (bD _ _ o! (cE _ _ eh))
     have Sd:Has h Xx:=bM du rv ks
     obtain ⟨h9,PW,pF,KQ,FQ,KS,Xr⟩:=R' (d:=d) (h:=Xx) (tO:=0) jI (((j.af.g i0).off).g fO.toNat) ((j.af.g i0).aB) trivial (bD _ _ o! (cE _ _ eh)) o! l! yT ma ma ma ma ma FW eO yU o!
     have alV:=AD jI (((j.af.g i0).off).g fO.toNat) ((j.af.g i0).aB) (by first | omega | exact xn _) (by first | omega | exact (ZX o! o!).1) (by first | omega | exact (ZX o! o!).2.1) (by first | omega | exact (ZX o! o!).2.2) (by first | omega | (dsimp only;omega)) (by first | omega | (dsimp only;omega))
     have my:Has h h9:=(Sd.trans FQ)
     have w10:IntKind.i64.wrap (fO+1)=fO+1:=wrap_i64 o! o!
     exact cA.round (congrArg Sum.inl (by simp only[c9,f0,cond_true,cond_false])) (pk (d+2) _ _ hh _ h9 (dR<|BV f0 jL<|MM j9<|NN nU (fun i=>(Pt i))<|SS m8<|MM (aI 70 0 (AV.agg [(Zi ((((j.af.g i0).off).g fO.toNat).bl)),(Zi ((((j.af.g i0).off).g fO.toNat).aN))]) f_ k!)<|CC<|MM (aI 3 1 (Zi ((j.af.g i0).aB)) (bD _ _ o! (cE _ _ cN)) k!)<|EE PW<|VV (rn 3 false true w10)<|CC<|ZZ) k!) o! _ k! (fun x=>uA j i0 Uc Xw d_ gV sg Cd qj ako db ft nI oJ HN AE mP qJ ry xz ct aeM akp aeN nH (fO+1) (eS jI (((j.af.g i0).off).g fO.toNat) ((j.af.g i0).aB)) o! (show (((0:Int)≤1)∧(0≤(fO+1)∧1≤((eS jI (((j.af.g i0).off).g fO.toNat) ((j.af.g i0).aB))).g 322∧((eS jI (((j.af.g i0).off).g fO.toNat) ((j.af.g i0).aB))).g 322≤1+2*(fO+1)∧((eS jI (((j.af.g i0).off).g fO.toNat) ((j.af.g i0).aB))).g 0=0)) from o!) x h9 pF my o! l! (FQ _ _ ((ks _ o!).trans (bD _ _ o! (cE _ _ cN)))) KS)
   · have dx:=of_decide_eq_false f0
     exact cA.out jI AV.undef (congrArg Sum.inl (by simp only[c9,f0,cond_true,cond_false])) (pk (d+2) _ _ hh _ hh (dR<|BB f0<|ZZ) k!) aA o! ⟨ay,cN,eh,l!,(show ((0:Int)≤1) from o!)⟩ k!
def cL (j:cG):Nat→Nat→List Tl→List Bool→List Int→List Tl×List Bool×List Int
 | 0,_,DK,aW,bq=>(DK,aW,bq)
 | cS+1,i0,DK,aW,bq=>cL j cS (i0+1) (DK++[⟨(c9 j i0 (((((j.af.g i0).off).length:Nat):Int) - 0).toNat 0 (cH ((j.af.g i0).aB)))⟩]) aW bq
theorem uC {d:Nat} {h:aw} {gg0:aw} (j:cG) (a_:Nat) (cx:Nat) (fj:Nat) (iT:Nat) (bb:aM h j.ai j.af) (cf:aM h j.ao j.ab) (fW:aG.ok h j) (fq:∀r,r<j.af.length→(j.af.g r).off.length≤16∧∀q,q<(j.af.g r).off.length→0≤((j.af.g r).off.g q).bl∧((j.af.g r).off.g q).aN≤100000) (hH:j.af.length≤16) (ly:j.ab.length≤100000) (ct:Tidy h) (tA:h.nx≤a_) (FX:h.nx≤cx) (KT:h.nx≤fj) (Xy:h.nx≤iT) (qk:cx≠a_) (tH:fj≠a_) (tI:fj≠cx) (FY:iT≠a_) (FZ:iT≠cx) (F0:iT≠fj) (NG0:h.nx≤gg0.nx) (Ny:a_<gg0.nx) (Xz:cx<gg0.nx) (ahN:fj<gg0.nx) (ahO:iT<gg0.nx):∀(k_ i_:Nat) (DK:List Tl) (aW:List Bool) (bq:List Int) (z0:AV) (_:i_+k_=j.af.length) (x:Nat→AV) (hh:aw) (aA:Tidy hh) (ay:Has h hh) (ij:h.nx≤hh.nx) (iS:aW.length=j.ab.length) (qS:bq.length=j.ab.length) (bh:hh.get a_=some (aH.cells [AV.aD,AV.aD,AV.aD,AV.aD,AV.aD] 76 false)) (cV:hh.get cx=some (aH.cells [j.ao,j.ai,(AV.slice fj 0 j.ab.length j.ab.length false),(AV.slice iT 0 j.ab.length j.ab.length false),z0] 76 false)) (gW:hh.get fj=some (aH.cells (bs aW) 4 false)) (kt:hh.get iT=some (aH.cells (zs .i64 bq) 3 false)) (Se:nG gg0 hh z0 DK) (lz0:DK.length≤i_) (Df:gg0.nx≤hh.nx),cA (σ:=List Tl×List Bool×List Int) (ρ:=Unit) (cU (d+2)) FT ⟨((x 0)::(x 1)::(Pt a_)::(Pt cx)::rx x 4 16 (j.ai::(Zn j.af.length)::(Zn i_)::rx x 23 26 [])),hh,[],.no⟩ (.exit 0) hh (fun r z y=>((y 0)::(y 1)::(Pt a_)::(Pt cx)::rx y 4 16 (j.ai::(Zn j.af.length)::rx y 22 27 []))) (fun r z y=>((y 0)::(y 1)::(Pt a_)::(Pt cx)::rx y 4 16 (j.ai::(Zn j.af.length)::rx y 22 27 []))) (fun r z hk=>Has h hk∧hk.get a_=some (aH.cells [AV.aD,AV.aD,AV.aD,AV.aD,AV.aD] 76 false)∧hk.get cx=some (aH.cells [j.ao,j.ai,(AV.slice fj 0 j.ab.length j.ab.length false),(AV.slice iT 0 j.ab.length j.ab.length false),z] 76 false)∧hk.get fj=some (aH.cells (bs r.2.1) 4 false)∧hk.get iT=some (aH.cells (zs .i64 r.2.2) 3 false)∧r.2.1.length=j.ab.length∧r.2.2.length=j.ab.length∧nG gg0 hk z r.1∧r.1.length≤j.af.length) (fun r z hk=>Has h hk) (Sum.inl (cL j k_ i_ DK aW bq))
 | 0,i0,DK,aW,bq,z0,gq,x,hh,aA,ay,ij,iS,qS,bh,cV,gW,kt,Se,lz0,Df=>by
   have cr:=bb.small
   have eQ:=cf.small
   have ji:=aA _ _ bh
   have vR:=aA _ _ cV
   have DL:=aA _ _ gW
   have KU:=aA _ _ kt
   have ro_:=fq i0
   have q1:(decide (((i0:Nat):Int)<((j.af.length:Nat):Int)))=false:=d!
   exact cA.out (DK,aW,bq) z0 rfl (pk (d+2) _ _ hh _ hh (VV (bO 3 false false .i64 ((i0:Nat):Int) ((j.af.length:Nat):Int))<|BB q1<|ZZ) k!) aA o! ⟨ay,bh,cV,gW,kt,l!,l!,Se,(by first | omega | (simp<;>omega))⟩ k!
 | cS+1,i0,DK,aW,bq,z0,gq,x,hh,aA,ay,ij,iS,qS,bh,cV,gW,kt,Se,lz0,Df=>by
   have cr:=bb.small
   have eQ:=cf.small
   have ji:=aA _ _ bh
   have vR:=aA _ _ cV
   have DL:=aA _ _ gW
   have KU:=aA _ _ kt
   have ro_:=fq i0
   have q1:(decide (((i0:Nat):Int)<((j.af.length:Nat):Int)))=true:=d!
   obtain ⟨p3,q4,cF⟩:=bb.elem (i:=i0) o!
   have jL:bR env (some (.slice 36)) (some j.ai) (some (Zn i0))=some (AV.ptr p3 q4):=cF
   have j9:aY env hh 36 (AV.ptr p3 q4)=some (AV.agg [(AV.str ((j.af.g i0).name)),(Zi ((j.af.g i0).aB)),((j.af.g i0).dp)]):=(bb.has ay).load o! cF
   obtain ⟨h6,nU,kM,Ce,nV,cE⟩:=kh aA (aH.cells [(AV.str []),(Zi 0),AV.aD] 36 false)
   have jA:Has h h6:=ay.trans cE
   have abr:Has hh h6:=cE
   have PX:AV.scalar ((j.af.g i0).dp)=true:=((bb.ok (i:=i0) o!).2).scalar
   obtain ⟨h7,m8,eO,xA,f_,bD⟩:=qi (t:=36) (n:=3) (i:=hh.nx) (L:=[(AV.str ((j.af.g i0).name)),(Zi ((j.af.g i0).aB)),((j.af.g i0).dp)]) kM nV k! rfl rfl (by simp only[AV.cells,List.all_cons,List.all_nil,Bool.and_true,Bool.and_self,iE,gd,iF,iG,eP,lF,lG,lH,lI,lJ,iH,PX])
   have du:Has h h7:=Has.ei jA bD ct o!
   have abt:Has hh h7:=Has.ei abr bD aA o!
   have alW:=xX ((j.af.g i0).aB)
   have k9:=KJ (d:=d+1) ((j.af.g i0).aB) eO
   obtain ⟨qE,F1,kU,Sf,xY,j_⟩:=kh eO (aH.cells (zs .i64 (List.replicate 324 0)) 127 false)
   have jm:Has h qE:=du.trans j_
   have XA:Has hh qE:=abt.trans j_
   obtain ⟨Uc,Xw,uX,F2,fP,XB,akq⟩:=PU (t:=127) (b:=h7.nx) (L:=(cH ((j.af.g i0).aB))) kU k! xY (by first | rfl | (rw[fZ];first | omega | (simp only[List.length_set,List.length_replicate,xj]<;>omega))) l!
   have uD:=fP.1
   have AF:Has h uX:=fP.has jm ct o!
   have XC:Has hh uX:=fP.has XA aA o!
   have PY:cc (some (.slice 70)) (some ((j.af.g i0).dp))=some (Zn (((j.af.g i0).off).length)):=((bb.ok (i:=i0) o!).2).len
   obtain ⟨ahP,aeO,ai9,abu,abv,qT⟩:=dO uD (fP.2.2 _ _ o! (j_ _ _ f_))
   have Ud:Has h ahP:=bM AF rv qT
   have PZ:Has hh ahP:=bM XC (by first | assumption | exact hG aA o!) qT
   obtain ⟨abw,aeP,aja,ajb,abx,qU⟩:=dO aeO ((qT _ o!).trans fP.2.1)
   have agA:abw.get hh.nx=none:=(qU _ o!).trans abu
   have sh:Has h abw:=bM Ud rv qU
   have P0:Has hh abw:=bM PZ (by first | assumption | exact hG aA o!) qU
   obtain ⟨Ue,akr,I3,KV,uE,ahQ,yV,ajc,aby,ajd,ahR⟩:=cA.n rfl (uA (d:=d) (h:=abw) j i0 Uc Xw a_ cx hh.nx h7.nx fj iT (bb.has sh) (((bb.ok (i:=i0) o!).2).has sh) ((bb.ok (i:=i0) o!).1) (aG.mono sh fW) (aG.mono sh (bb.ok (i:=i0) o!)) o! (by assumption) o! o! o! aeP (by assumption) (by assumption) o! (((((j.af.g i0).off).length:Nat):Int) - 0).toNat 0 (cH ((j.af.g i0).aB)) o! (show (((0:Int)≤1)∧(0≤0∧1≤((cH ((j.af.g i0).aB))).g 322∧((cH ((j.af.g i0).aB))).g 322≤1+2*0∧((cH ((j.af.g i0).aB))).g 0=0)) from o!) (fun k_=>(((x 0)::(x 1)::(Pt a_)::(Pt cx)::(x 4)::(Pt hh.nx)::(Pt h7.nx)::rx x 7 13 (j.ai::(Zn j.af.length)::(Zn i0)::(AV.bool (decide (((i0:Nat):Int)<((j.af.length:Nat):Int))))::(AV.ptr p3 q4)::(AV.agg [(AV.str ((j.af.g i0).name)),(Zi ((j.af.g i0).aB)),((j.af.g i0).dp)])::(AV.ptr hh.nx 1)::(Zi ((j.af.g i0).aB))::(AV.agg (zs .i64 (cH ((j.af.g i0).aB))))::(AV.ptr hh.nx 2)::((j.af.g i0).dp)::(Zn (((j.af.g i0).off).length))::(Zi 0)::rx x 33 16 [])):List AV).getD k_ AV.undef) uX uD (abx.trans abv) o! l! (fP.2.2 _ _ o! (j_ _ _ f_)) fP.2.1)
   have Dg:Has h I3:=(sh.trans yV)
   have XD:Has hh I3:=(P0.trans yV)
   have HO:aY env I3 127 (Pt h7.nx)=some (AV.agg (zs .i64 (c9 j i0 (((((j.af.g i0).off).length:Nat):Int) - 0).toNat 0 (cH ((j.af.g i0).aB))))):=Ub k! k! aby o! l!
   obtain ⟨h20,ahS,Sg,alX,ahT,F3⟩:=kh uE (aH.cells (zs .i64 (c9 j i0 (((((j.af.g i0).off).length:Nat):Int) - 0).toNat 0 (cH ((j.af.g i0).aB)))) 127 false)
   have Sh:Has h h20:=Dg.trans F3
   have XE:Has hh h20:=XD.trans F3
   have agB:Has I3 h20:=F3
   obtain ⟨z22,h21,aeQ,I4,adj,Nz,aeR⟩:=nG.abl (g:=gg0) (tys:= #[74,74]) (t:=(c9 j i0 (((((j.af.g i0).off).length:Nat):Int) - 0).toNat 0 (cH ((j.af.g i0).aB)))) (L:=DK) (z:=z0) (op:=false) Sg o! (nG.has Se XE) ahT l! o! rfl rfl k! k! (bytes:=2592) k! (z0:=AV.agg (zs .i64 (List.replicate 324 0))) k! rfl (by decide)
   have I5:Has h h21:=Has.PS Sh ct o! Nz
   have amp:AV.scalar z22=true:=(nG.scalar aeR)
   obtain ⟨h24,ahU,ahV,alY,ahW,F4⟩:=akd (t:=74) (i:=cx) (o:=4) (v:=z22) (N:=[j.ao,j.ai,(AV.slice fj 0 j.ab.length j.ab.length false),(AV.slice iT 0 j.ab.length j.ab.length false),z22]) I4 (Nz _ _ o! (F3 _ _ (yV _ _ ((qU _ o!).trans ((qT _ o!).trans (fP.2.2 _ _ o! (j_ _ _ (bD _ _ o! (cE _ _ cV))))))))) k! (nG.scalar aeR) k! k!
   have ahX:Has h h24:=Has.ei I5 F4 ct o!
   have u26:=dZ 3 false true i0 1 o!
   exact cA.round (congrArg Sum.inl (by simp only[cL,cond_true,cond_false])) (pk (d+2) _ _ hh _ h24 (VV (bO 3 false false .i64 ((i0:Nat):Int) ((j.af.length:Nat):Int))<|BV q1 jL<|MM j9<|NN nU (fun i=>(Pt i))<|SS m8<|CC<|MM (aI 3 1 (Zi ((j.af.g i0).aB)) f_ k!)<|EE k9<|NN F1 (fun i=>(Pt i))<|SS F2<|CC<|MM (aI 34 2 ((j.af.g i0).dp) (fP.2.2 _ _ o! (j_ _ _ f_)) k!)<|VV PY<|CC<|LL KV<|CC<|MM (aI 74 4 z0 (yV _ _ ((qU _ o!).trans ((qT _ o!).trans (fP.2.2 _ _ o! (j_ _ _ (bD _ _ o! (cE _ _ cV))))))) k!)<|MM HO<|AA (.a (aH.cells (zs .i64 (c9 j i0 (((((j.af.g i0).off).length:Nat):Int) - 0).toNat 0 (cH ((j.af.g i0).aB)))) 127 false) (AV.slice I3.nx 0 1 1 false) h20)<|HH ahS<|HH (show ∃mk:Nat→AV,bsl 127 (c9 j i0 (((((j.af.g i0).off).length:Nat):Int) - 0).toNat 0 (cH ((j.af.g i0).aB)))=some (aH.cells (zs .i64 (c9 j i0 (((((j.af.g i0).off).length:Nat):Int) - 0).toNat 0 (cH ((j.af.g i0).aB)))) 127 false,mk)∧mk I3.nx=(AV.slice I3.nx 0 1 1 false) from ⟨_,aeK l!,rfl⟩)<|PP (show di env h20 #[74,74] z0 (AV.slice I3.nx 0 1 1 false)=some (z22,h21) from aeQ)<|CC<|SS ahU<|VV u26<|CC<|ZZ) k!) o! _ k! (fun x=>uC j a_ cx fj iT bb cf fW fq hH ly ct tA FX KT Xy qk tH tI FY FZ F0 NG0 Ny Xz ahN ahO cS (i0+1) (DK++[⟨(c9 j i0 (((((j.af.g i0).off).length:Nat):Int) - 0).toNat 0 (cH ((j.af.g i0).aB)))⟩]) aW bq z22 o! x h24 ahV ahX o! l! l! (F4 _ _ o! (Nz _ _ o! (F3 _ _ (yV _ _ ((qU _ o!).trans ((qT _ o!).trans (fP.2.2 _ _ o! (j_ _ _ (bD _ _ o! (cE _ _ bh)))))))))) ahW (F4 _ _ o! (Nz _ _ o! (F3 _ _ (yV _ _ ((qU _ o!).trans ((qT _ o!).trans (fP.2.2 _ _ o! (j_ _ _ (bD _ _ o! (cE _ _ gW)))))))))) (F4 _ _ o! (Nz _ _ o! (F3 _ _ (yV _ _ ((qU _ o!).trans ((qT _ o!).trans (fP.2.2 _ _ o! (j_ _ _ (bD _ _ o! (cE _ _ kt)))))))))) (nG.kept aeR F4 o!) (by first | omega | (simp<;>omega)) o!)
def ba (j:cG):List Tl×List Bool×List Int:=((cL j j.af.length 0 ([]) (List.replicate j.ab.length false) (List.replicate j.ab.length 0)).1,(cL j j.af.length 0 ([]) (List.replicate j.ab.length false) (List.replicate j.ab.length 0)).2.1,(cL j j.af.length 0 ([]) (List.replicate j.ab.length false) (List.replicate j.ab.length 0)).2.2)
theorem AG {d:Nat} {h:aw} (j:cG) (bZ:aG.ok h j) (nE:∀r,r<j.af.length→(j.af.g r).off.length≤16∧∀q,q<(j.af.g r).off.length→0≤((j.af.g r).off.g q).bl∧((j.af.g r).off.g q).aN≤100000) (qI:j.af.length≤16) (yS:j.ab.length≤100000) (ct:Tidy h):∃p s z g hk,cU (d+3) (.fn 17) [(AV.agg [j.ao,j.ai])] h= .ret (.agg [j.ao,j.ai,.slice p 0 j.ab.length j.ab.length false,.slice s 0 j.ab.length j.ab.length false,z]) hk∧bp h hk∧hk.get p=some (aH.cells (bs ((ba j).2.1)) 4 false)∧hk.get s=some (aH.cells (zs .i64 ((ba j).2.2)) 3 false)∧nG g hk z (ba j).1∧(ba j).2.1.length=j.ab.length∧(ba j).2.2.length=j.ab.length∧h.nx≤p∧h.nx≤s∧p≠s∧p<g.nx∧s<g.nx∧h.nx≤g.nx:=by
 have eT:=bZ.1.small
 have eU:=bZ.2.small
 obtain ⟨h1,dH,cP,kr,bk,bW⟩:=kh ct (aH.cells [j.ao,j.ai] 25 false)
 have bB:Has h h1:=bW
 obtain ⟨h2,P1,vO,abn,pE,rz⟩:=kh cP (aH.cells [AV.aD,AV.aD,AV.aD,AV.aD,AV.aD] 76 false)
 have kJ:Has h h2:=bB.trans rz
 have L8:cc (some (.slice 39)) (some j.ao)=some (Zn j.ab.length):=bZ.1.len
 have mk4:vI env (some (.slice 4)) (some (Zn j.ab.length)) (some (Zn j.ab.length))=some (aH.cells (bP [(AV.bool false)] j.ab.length) 4 false,fun i=>AV.slice i 0 j.ab.length j.ab.length false):=mF (bytes:=1) (z:=(AV.bool false)) k! k! k! rfl (by decide) o!
 obtain ⟨h5,aks,kK,ahH,XF,P2⟩:=kh vO (aH.cells (bP [(AV.bool false)] j.ab.length) 4 false)
 have gE:Has h h5:=kJ.trans P2
 have adk:h5.get h2.nx=some (aH.cells (bs (List.replicate j.ab.length false)) 4 false):=by have q:=XF;rw[yP] at q;exact q
 have Si:cc (some (.slice 39)) (some j.ao)=some (Zn j.ab.length):=bZ.1.len
 have mk7:vI env (some (.slice 3)) (some (Zn j.ab.length)) (some (Zn j.ab.length))=some (aH.cells (bP [(Zi 0)] j.ab.length) 3 false,fun i=>AV.slice i 0 j.ab.length j.ab.length false):=mF (bytes:=8) (z:=(Zi 0)) k! k! k! rfl (by decide) o!
 obtain ⟨h8,aeS,ql,aeT,kV,Cf⟩:=kh kK (aH.cells (bP [(Zi 0)] j.ab.length) 3 false)
 have oK:Has h h8:=gE.trans Cf
 have adl:h8.get h5.nx=some (aH.cells (zs .i64 (List.replicate j.ab.length 0)) 3 false):=by have q:=kV;rw[FE] at q;exact q
 obtain ⟨h9,aeU,pF,aeV,abz,AH⟩:=kh ql (aH.cells [AV.aD,AV.aD,AV.aD,AV.aD,AV.aD] 76 false)
 have my:Has h h9:=oK.trans AH
 have ahY:AV.scalar j.ao=true:=bZ.1.scalar
 have ahZ:AV.scalar j.ai=true:=bZ.2.scalar
 obtain ⟨qE,ah0,kU,Sf,xY,F5⟩:=qi (t:=76) (n:=5) (i:=h8.nx) (L:=[j.ao,j.ai,(AV.slice h2.nx 0 j.ab.length j.ab.length false),(AV.slice h5.nx 0 j.ab.length j.ab.length false),AV.aD]) pF abz k! rfl rfl (by simp only[AV.cells,List.all_cons,List.all_nil,Bool.and_true,Bool.and_self,iE,gd,iF,iG,eP,lF,lG,lH,lI,lJ,iH,ahY,ahZ])
 have jm:Has h qE:=Has.ei my F5 ct o!
 have Uf:AV.same 20 (AV.agg [j.ao,j.ai]) (AV.agg [j.ao,j.ai])=true:=jy 18 (xh bZ.1.same (xh bZ.2.same TY))
 have U':AV.same 20 j.ao j.ao=true:=bZ.1.same 19
 have akt:cc (some (.slice 36)) (some j.ai)=some (Zn j.af.length):=bZ.2.len
 obtain ⟨Ue,ah1,ZY,AI,I6,adm,aeW,abA,abB,abC,abD,aje,ajf,Sj,ajg⟩:=cA.n rfl (uC (d:=d) (h:=h) (gg0:=qE) j h1.nx h8.nx h2.nx h5.nx bZ.2 bZ.1 bZ (by assumption) o! o! ct o! o! o! o! o! o! o! o! o! o! o! o! o! o! o! j.af.length 0 ([]) (List.replicate j.ab.length false) (List.replicate j.ab.length 0) AV.aD o! (fun k_=>(((AV.agg [j.ao,j.ai])::(Pt h.nx)::(Pt h1.nx)::(Pt h8.nx)::AV.undef::AV.undef::AV.undef::AV.undef::AV.undef::(AV.agg [j.ao,j.ai])::(Pt h.nx)::j.ao::(Zn j.ab.length)::(AV.slice h2.nx 0 j.ab.length j.ab.length false)::(Pt h.nx)::j.ao::(Zn j.ab.length)::(AV.slice h5.nx 0 j.ab.length j.ab.length false)::(AV.agg [j.ao,j.ai,(AV.slice h2.nx 0 j.ab.length j.ab.length false),(AV.slice h5.nx 0 j.ab.length j.ab.length false),AV.aD])::(AV.ptr h.nx 1)::j.ai::(Zn j.af.length)::(Zi 0)::lk 26):List AV).getD k_ AV.undef) qE kU jm o! l! l! (F5 _ _ o! (AH _ _ (Cf _ _ (P2 _ _ pE)))) xY (F5 _ _ o! (AH _ _ (Cf _ _ adk))) (F5 _ _ o! (AH _ _ adl)) (.inl ⟨rfl,rfl⟩) (Nat.zero_le _) o!)
 have I7:Has h ZY:=aeW
 have aku:AV.scalar Ue=true:=(nG.scalar Sj)
 obtain ⟨FK,Nt,vQ,adi,ah2,KW⟩:=qi (t:=76) (n:=5) (i:=h1.nx) (L:=[j.ao,j.ai,(AV.slice h2.nx 0 j.ab.length j.ab.length false),(AV.slice h5.nx 0 j.ab.length j.ab.length false),Ue]) I6 abA k! rfl rfl (by simp only[AV.cells,List.all_cons,List.all_nil,Bool.and_true,Bool.and_self,iE,gd,iF,iG,eP,lF,lG,lH,lI,lJ,iH,ahY,ahZ,aku])
 have oH:Has h FK:=Has.ei I7 KW ct o!
 have e:ba j=((cL j j.af.length 0 ([]) (List.replicate j.ab.length false) (List.replicate j.ab.length 0)).1,(cL j j.af.length 0 ([]) (List.replicate j.ab.length false) (List.replicate j.ab.length 0)).2.1,(cL j j.af.length 0 ([]) (List.replicate j.ab.length false) (List.replicate j.ab.length 0)).2.2):=by simp only[ba,cond_true,cond_false]
 rw[e]
 exact ⟨h2.nx,h5.nx,Ue,qE,eu rfl (Dd (a:=2) (t:=76) (i:=h1.nx) Tryz.func17 KR rfl (.inr rfl) (pk (d+2) _ _ h _ FK (NN dH (fun i=>(Pt i))<|NN P1 (fun i=>(Pt i))<|MM (aI 25 0 (AV.agg [j.ao,j.ai]) (rz _ _ bk) k!)<|CC<|MM (aI 22 0 j.ao (rz _ _ bk) k!)<|VV L8<|KK mk4 aks<|CC<|MM (aI 22 0 j.ao (P2 _ _ (rz _ _ bk)) k!)<|VV Si<|KK mk7 aeS<|CC<|NN aeU (fun i=>(Pt i))<|SS ah0<|HH (aI 25 0 (AV.agg [j.ao,j.ai]) (AH _ _ (Cf _ _ (P2 _ _ (rz _ _ bk)))) k!)<|HH Uf<|HH (aI 22 0 j.ao (AH _ _ (Cf _ _ (P2 _ _ (rz _ _ bk)))) k!)<|HH U'<|HH (show ∃o,h9.get h2.nx=some o∧aH.same o (aH.cells (bP [(AV.bool false)] j.ab.length) 4 false)=true from ⟨_,(AH _ _ (Cf _ _ adk)),(by rw[←yP];exact B_ _ rfl _ _ _)⟩)<|HH (aI 22 0 j.ao (AH _ _ (Cf _ _ (P2 _ _ (rz _ _ bk)))) k!)<|HH U'<|HH (show ∃o,h9.get h5.nx=some o∧aH.same o (aH.cells (bP [(Zi 0)] j.ab.length) 3 false)=true from ⟨_,(AH _ _ adl),(by rw[←FE];exact B_ _ (aK 19 _ _) _ _ _)⟩)<|HH (show ∃o,h9.get h8.nx=some o∧aH.same o (aH.cells [AV.aD,AV.aD,AV.aD,AV.aD,AV.aD] 76 false)=true from ⟨_,abz,by simp [aH.same,ep,AV.same]⟩)<|HH (show nodup [h2.nx,h5.nx,h8.nx]=true from (by simp [nodup];omega))<|CC<|MM (aI 23 1 j.ai (F5 _ _ o! (AH _ _ (Cf _ _ (P2 _ _ (rz _ _ bk))))) k!)<|VV akt<|CC<|LL AI<|MM (aI 76 0 (AV.agg [j.ao,j.ai,(AV.slice h2.nx 0 j.ab.length j.ab.length false),(AV.slice h5.nx 0 j.ab.length j.ab.length false),Ue]) abB k!)<|SS Nt<|ZZ) k!) k! (Fy ah2 k!)) ct ⟨vQ,oH,by omega⟩ (P:=fun hh=>hh.get h2.nx=some (aH.cells (bs ((cL j j.af.length 0 ([]) (List.replicate j.ab.length false) (List.replicate j.ab.length 0)).2.1)) 4 false)∧hh.get h5.nx=some (aH.cells (zs .i64 ((cL j j.af.length 0 ([]) (List.replicate j.ab.length false) (List.replicate j.ab.length 0)).2.2)) 3 false)∧nG qE hh Ue ((cL j j.af.length 0 ([]) (List.replicate j.ab.length false) (List.replicate j.ab.length 0)).1)∧((cL j j.af.length 0 ([]) (List.replicate j.ab.length false) (List.replicate j.ab.length 0)).2.1).length=j.ab.length∧((cL j j.af.length 0 ([]) (List.replicate j.ab.length false) (List.replicate j.ab.length 0)).2.2).length=j.ab.length∧h.nx≤h2.nx∧h.nx≤h5.nx∧h2.nx≠h5.nx∧h2.nx<qE.nx∧h5.nx<qE.nx∧h.nx≤qE.nx) ⟨(KW _ _ o! abC),(KW _ _ o! abD),(nG.kept Sj KW o!),l!,l!,by omega,by omega,by omega,by omega,by omega,by omega⟩ fun v=>(r_ (Nw v) o!).elim⟩
theorem vS {p:Prop} (h:p:=by first | omega | exact (ZX o! o!).1 | exact (ZX o! o!).2.1 | exact (ZX o! o!).2.2 | (dsimp only;omega)):p:=h
theorem AJ {p:Prop} (h:p:=by first | omega | exact ⟨by omega,by omega,Xv l8 mO fV.2.1 o! fV.2.2⟩):p:=h
theorem si {p:Prop} (h:p:=by first | assumption | exact hG ct o!):p:=h
noncomputable def F6:Code:=(Tryz.f72.body).getD .skip
theorem abE:Tryz.f72.body=some F6:=by kernel_rfl
noncomputable def Ug:Code:=(bw F6).getD 0 .skip
def jC (j:cG) (task:Int) (start:Int):Nat→Int→List Bool→List Int→List Tl→List Bool×List Int×List Tl
 | 0,cW,aW,bq,gv=>(aW,bq,gv)
 | cS+1,cW,aW,bq,gv=>(bif (decide (cW<((((j.ab.g task.toNat).au).length:Nat):Int))) then jC j task start cS (cW+1) aW bq (gv.set ((((j.ab.g task.toNat).au).g cW.toNat).ah).toNat ⟨(eS (fit (gv.g ((((j.ab.g task.toNat).au).g cW.toNat).ah).toNat).l) (⟨start,((start+((j.ab.g task.toNat).takes)) - 1)⟩:Span) ((((j.ab.g task.toNat).au).g cW.toNat).aB))⟩) else (aW,bq,gv))
theorem F7 {d:Nat} {h:aw} (start:Int) (j:cG) (task:Int) (placedN:Nat) (startsN:Nat) (talliesN:Nat) (talliesF:Bool) (aj:List Bool) (ar:List Int) (aL:List Tl) (a_:Nat) (cx:Nat) (fj:Nat) (iT:Nat) (rA:Nat) (bb:aM h ((j.ab.g task.toNat).aS) ((j.ab.g task.toNat).au)) (cf:aM h j.ao j.ab) (dc:aM h j.ai j.af) (iU:((j.ab.g task.toNat).name).length<2^60) (tJ:bS h .i64 3 ((j.ab.g task.toNat).aO) ((j.ab.g task.toNat).ax)) (fW:aG.ok h j) (F8:aG.ok h (j.ab.g task.toNat)) (fq:0≤task) (hH:task<(j.ab.length:Int)) (ly:aj.length=j.ab.length) (mw:ar.length=j.ab.length) (l8:∀q,q<(j.ab.g task.toNat).au.length→0≤((j.ab.g task.toNat).au.g q).ah∧((j.ab.g task.toNat).au.g q).ah<(aL.length:Int)) (mO:∀a,a<(j.ab.g task.toNat).au.length→∀b,a<b→b<(j.ab.g task.toNat).au.length→((j.ab.g task.toNat).au.g a).ah≠((j.ab.g task.toNat).au.g b).ah) (Cg:0≤start) (F9:start+(j.ab.g task.toNat).takes≤100000) (HQ:0≤(j.ab.g task.toNat).takes) (F_:∀q,q<(j.ab.g task.toNat).au.length→Az 159 (aL.g (Int.toNat ((j.ab.g task.toNat).au.g q).ah))) (vT:talliesN=aL.length) (ct:Tidy h) (tA:h.nx≤a_) (FX:h.nx≤cx) (KT:h.get fj=none) (Xy:h.get iT=none) (akv:h.get rA=none) (qk:cx≠a_) (tH:fj≠a_) (tI:fj≠cx) (FY:iT≠a_) (FZ:iT≠cx) (F0:iT≠fj) (aeX:rA≠a_) (aeY:rA≠cx) (aeZ:rA≠fj) (ae0:rA≠iT):∀(k_:Nat) (cW:Int) (aW:List Bool) (bq:List Int) (gv:List Tl) (_:((((j.ab.g task.toNat).au).length:Nat):Int) - cW≤(k_:Int)) (_:(((0:Int)≤1)∧(0≤cW∧∀q:Nat,cW≤(q:Int)→q<(j.ab.g task.toNat).au.length→Az 159 ((gv).g (Int.toNat ((j.ab.g task.toNat).au.g q).ah))))) (x:Nat→AV) (hh:aw) (aA:Tidy hh) (ay:Has h hh) (ij:h.nx≤hh.nx) (iS:aW.length=placedN) (qS:bq.length=startsN) (NA:gv.length=talliesN) (bh:hh.get a_=some (aH.cells [j.ao,j.ai,(AV.slice fj 0 placedN placedN false),(AV.slice iT 0 startsN startsN false),(AV.slice rA 0 talliesN talliesN talliesF)] 76 false)) (cV:hh.get cx=some (aH.cells [(AV.str ((j.ab.g task.toNat).name)),(Zi ((j.ab.g task.toNat).takes)),((j.ab.g task.toNat).aO),((j.ab.g task.toNat).aS)] 39 false)) (gW:hh.get fj=some (aH.cells (bs aW) 4 false)) (kt:hh.get iT=some (aH.cells (zs .i64 bq) 3 false)) (AK:hh.get rA=some (aH.cells (kL gv) 127 false)),cA (σ:=List Bool×List Int×List Tl) (ρ:=Unit) (cU (d+2)) Ug ⟨((x 0)::(x 1)::(Zi start)::(Pt a_)::(x 4)::(x 5)::(Pt cx)::rx x 7 18 (((j.ab.g task.toNat).aS)::(Zn (((j.ab.g task.toNat).au).length))::(Zi cW)::rx x 28 19 [])),hh,[],.no⟩ (.exit 0) hh (fun r z y=>((y 0)::(y 1)::(Zi start)::(Pt a_)::(y 4)::(y 5)::(Pt cx)::rx y 7 18 (((j.ab.g task.toNat).aS)::(Zn (((j.ab.g task.toNat).au).length))::rx y 27 20 []))) (fun r z y=>((y 0)::(y 1)::(Zi start)::(Pt a_)::(y 4)::(y 5)::(Pt cx)::rx y 7 18 (((j.ab.g task.toNat).aS)::(Zn (((j.ab.g task.toNat).au).length))::rx y 27 20 []))) (fun r z hk=>Has h hk∧hk.get a_=some (aH.cells [j.ao,j.ai,(AV.slice fj 0 placedN placedN false),(AV.slice iT 0 startsN startsN false),(AV.slice rA 0 talliesN talliesN talliesF)] 76 false)∧hk.get cx=some (aH.cells [(AV.str ((j.ab.g task.toNat).name)),(Zi ((j.ab.g task.toNat).takes)),((j.ab.g task.toNat).aO),((j.ab.g task.toNat).aS)] 39 false)∧hk.get fj=some (aH.cells (bs r.1) 4 false)∧hk.get iT=some (aH.cells (zs .i64 r.2.1) 3 false)∧hk.get rA=some (aH.cells (kL r.2.2) 127 false)∧r.1.length=placedN∧r.2.1.length=startsN∧r.2.2.length=talliesN∧((0:Int)≤1)) (fun r z hk=>Has h hk) (Sum.inl (jC j task start k_ cW aW bq gv))
 | 0,cW,aW,bq,gv,gq,fV,x,hh,aA,ay,ij,iS,qS,NA,bh,cV,gW,kt,AK=>by
   have cr:=bb.small
   have eQ:=cf.small
   have jD:=dc.small
   have yW:=tJ.small
   have ji:=aA _ _ bh
   have vR:=aA _ _ cV
   have DL:=aA _ _ gW
   have KU:=aA _ _ kt
   have ae1:=aA _ _ AK
   have ur_:=l8 cW.toNat
   have ZX:=fV.2.2 cW.toNat
   have q1:(decide (cW<((((j.ab.g task.toNat).au).length:Nat):Int)))=false:=d!
   exact cA.out (aW,bq,gv) AV.undef rfl (pk (d+2) _ _ hh _ hh (VV (bO 3 false false .i64 cW ((((j.ab.g task.toNat).au).length:Nat):Int))<|BB q1<|ZZ) k!) aA o! ⟨ay,bh,cV,gW,kt,AK,l!,l!,l!,(show ((0:Int)≤1) from AJ)⟩ k!
 | cS+1,cW,aW,bq,gv,gq,fV,x,hh,aA,ay,ij,iS,qS,NA,bh,cV,gW,kt,AK=>by
   have cr:=bb.small
   have eQ:=cf.small
   have jD:=dc.small
   have yW:=tJ.small
   have ji:=aA _ _ bh
   have vR:=aA _ _ cV
   have DL:=aA _ _ gW
   have KU:=aA _ _ kt
   have ae1:=aA _ _ AK
   have ur_:=l8 cW.toNat
   have ZX:=fV.2.2 cW.toNat
   have dR:=fun {al ps} (k:Pk al _ ps)=>(VV (bO 3 false false .i64 cW ((((j.ab.g task.toNat).au).length:Nat):Int))<|k:Pk _ [] ps)
   rcases Bool.eq_false_or_eq_true (decide (cW<((((j.ab.g task.toNat).au).length:Nat):Int))) with f0 | f0
   · have dx:=of_decide_eq_true f0
     obtain ⟨p3,q4,cF⟩:=bb.elem (i:=cW.toNat) o!
     have jL:bR env (some (.slice 80)) (some ((j.ab.g task.toNat).aS)) (some (Zi cW))=some (AV.ptr p3 q4):=by rw[show (cW:Int)=((cW.toNat:Nat):Int) by omega];exact cF
     have j9:aY env hh 80 (AV.ptr p3 q4)=some (AV.agg [(Zi ((((j.ab.g task.toNat).au).g cW.toNat).ah)),(Zi ((((j.ab.g task.toNat).au).g cW.toNat).aB))]):=(bb.has ay).load o! cF
     obtain ⟨h6,nU,kM,Ce,nV,cE⟩:=kh aA (aH.cells [(Zi 0),(Zi 0)] 80 false)
     have jA:Has h h6:=ay.trans cE
     obtain ⟨h7,m8,eO,xA,f_,bD⟩:=qi (t:=80) (n:=2) (i:=hh.nx) (L:=[(Zi ((((j.ab.g task.toNat).au).g cW.toNat).ah)),(Zi ((((j.ab.g task.toNat).au).g cW.toNat).aB))]) kM nV k! rfl rfl (by simp only[AV.cells,List.all_cons,List.all_nil,Bool.and_true,Bool.and_self,iE,gd,iF,iG,eP,lF,lG,lH,lI,lJ,iH])
     have du:Has h h7:=Has.ei jA bD ct o!
     have HR:bR env (some (.slice 127)) (some (AV.slice rA 0 talliesN talliesN talliesF)) (some (Zi ((((j.ab.g task.toNat).au).g cW.toNat).ah)))=some (AV.ptr rA (0+((((j.ab.g task.toNat).au).g cW.toNat).ah).toNat*324)):=KH (z:=324) (k:=((((j.ab.g task.toNat).au).g cW.toNat).ah).toNat) k! o! o!
     have w9:IntKind.i64.wrap (start+((j.ab.g task.toNat).takes))=start+((j.ab.g task.toNat).takes):=wrap_i64 o! o!
     have w10:IntKind.i64.wrap ((start+((j.ab.g task.toNat).takes)) - 1)=(start+((j.ab.g task.toNat).takes)) - 1:=wrap_i64 o! o!
     obtain ⟨NC,P3,abF,Sk,KX,m9⟩:=dO eO (bD _ _ o! (cE _ _ AK))
     have ae2:Has h NC:=bM du si m9
     obtain ⟨pL,XG,qm,XH,F',abG,abH⟩:=R' (d:=d) (h:=NC) (tO:=0+((((j.ab.g task.toNat).au).g cW.toNat).ah).toNat*324) (fit (gv.g ((((j.ab.g task.toNat).au).g cW.toNat).ah).toNat).l) (⟨start,((start+((j.ab.g task.toNat).takes)) - 1)⟩:Span) ((((j.ab.g task.toNat).au).g cW.toNat).aB) trivial (Sc (bD _ _ o! (cE _ _ AK)) o!) (by rw[(FR o!).2];omega) (xn _) Sk vS vS vS vS vS P3 eO KX o!
     have ae3:pL.get rA=some (aH.cells (kL (gv.set ((((j.ab.g task.toNat).au).g cW.toNat).ah).toNat ⟨(eS (fit (gv.g ((((j.ab.g task.toNat).au).g cW.toNat).ah).toNat).l) (⟨start,((start+((j.ab.g task.toNat).takes)) - 1)⟩:Span) ((((j.ab.g task.toNat).au).g cW.toNat).aB))⟩)) 127 false):=Xu o! abH abG
     have akw:=AD (fit (gv.g ((((j.ab.g task.toNat).au).g cW.toNat).ah).toNat).l) (⟨start,((start+((j.ab.g task.toNat).takes)) - 1)⟩:Span) ((((j.ab.g task.toNat).au).g cW.toNat).aB) (by first | omega | exact xn _) (by first | omega | exact (ZX o! o!).1) (by first | omega | exact (ZX o! o!).2.1) (by first | omega | exact (ZX o! o!).2.2) (by first | omega | (dsimp only;omega)) (by first | omega | (dsimp only;omega))
     have jM:Has h pL:=(ae2.trans F')
     have w13:IntKind.i64.wrap (cW+1)=cW+1:=wrap_i64 o! o!
     exact cA.round (congrArg Sum.inl (by simp only[jC,f0,cond_true,cond_false])) (pk (d+2) _ _ hh _ pL (dR<|BV f0 jL<|MM j9<|NN nU (fun i=>(Pt i))<|SS m8<|CC<|MM (aI 74 4 (AV.slice rA 0 talliesN talliesN talliesF) (bD _ _ o! (cE _ _ bh)) k!)<|CC<|MM (aI 3 0 (Zi ((((j.ab.g task.toNat).au).g cW.toNat).ah)) f_ k!)<|VV HR<|CN 3<|MM (aI 3 1 (Zi ((j.ab.g task.toNat).takes)) (bD _ _ o! (cE _ _ cV)) k!)<|VV (rn 3 false false w9)<|VV (vz 3 false true w10)<|CN 2<|MM (aI 3 1 (Zi ((((j.ab.g task.toNat).au).g cW.toNat).aB)) f_ k!)<|EE XG<|HH (aI 74 4 (AV.slice rA 0 talliesN talliesN talliesF) (bD _ _ o! (cE _ _ bh)) k!)<|HH (show AV.same 20 (AV.slice rA 0 talliesN talliesN talliesF) (AV.slice rA 0 talliesN talliesN talliesF)=true from jg 19 _ _ _ _ _)<|HH (aI 3 0 (Zi ((((j.ab.g task.toNat).au).g cW.toNat).ah)) f_ k!)<|HH (show AV.same 20 (Zi ((((j.ab.g task.toNat).au).g cW.toNat).ah)) (Zi ((((j.ab.g task.toNat).au).g cW.toNat).ah))=true from aK 19 _ _)<|HH (aI 3 1 (Zi ((j.ab.g task.toNat).takes)) (bD _ _ o! (cE _ _ cV)) k!)<|HH (show AV.same 20 (Zi ((j.ab.g task.toNat).takes)) (Zi ((j.ab.g task.toNat).takes))=true from aK 19 _ _)<|HH (aI 3 1 (Zi ((((j.ab.g task.toNat).au).g cW.toNat).aB)) f_ k!)<|HH (show AV.same 20 (Zi ((((j.ab.g task.toNat).au).g cW.toNat).aB)) (Zi ((((j.ab.g task.toNat).au).g cW.toNat).aB))=true from aK 19 _ _)<|VV (rn 3 false true w13)<|CC<|ZZ) k!) o! _ k! (fun x=>F7 start j task placedN startsN talliesN talliesF aj ar aL a_ cx fj iT rA bb cf dc iU tJ fW F8 fq hH ly mw l8 mO Cg F9 HQ F_ vT ct tA FX KT Xy akv qk tH tI FY FZ F0 aeX aeY aeZ ae0 cS (cW+1) aW bq (gv.set ((((j.ab.g task.toNat).au).g cW.toNat).ah).toNat ⟨(eS (fit (gv.g ((((j.ab.g task.toNat).au).g cW.toNat).ah).toNat).l) (⟨start,((start+((j.ab.g task.toNat).takes)) - 1)⟩:Span) ((((j.ab.g task.toNat).au).g cW.toNat).aB))⟩) AJ (show (((0:Int)≤1)∧(0≤(cW+1)∧∀q:Nat,(cW+1)≤(q:Int)→q<(j.ab.g task.toNat).au.length→Az 159 (((gv.set ((((j.ab.g task.toNat).au).g cW.toNat).ah).toNat ⟨(eS (fit (gv.g ((((j.ab.g task.toNat).au).g cW.toNat).ah).toNat).l) (⟨start,((start+((j.ab.g task.toNat).takes)) - 1)⟩:Span) ((((j.ab.g task.toNat).au).g cW.toNat).aB))⟩)).g (Int.toNat ((j.ab.g task.toNat).au.g q).ah)))) from AJ) x pL qm jM o! l! l! l! (F' _ _ ((m9 _ o!).trans (bD _ _ o! (cE _ _ bh)))) (F' _ _ ((m9 _ o!).trans (bD _ _ o! (cE _ _ cV)))) (F' _ _ ((m9 _ o!).trans (bD _ _ o! (cE _ _ gW)))) (F' _ _ ((m9 _ o!).trans (bD _ _ o! (cE _ _ kt)))) ae3)
   · have dx:=of_decide_eq_false f0
     exact cA.out (aW,bq,gv) AV.undef (congrArg Sum.inl (by simp only[jC,f0,cond_true,cond_false])) (pk (d+2) _ _ hh _ hh (dR<|BB f0<|ZZ) k!) aA o! ⟨ay,bh,cV,gW,kt,AK,l!,l!,l!,(show ((0:Int)≤1) from AJ)⟩ k!
def jN (j:cG) (aj:List Bool) (ar:List Int) (aL:List Tl) (task:Int) (start:Int):List Bool×List Int×List Tl:=((jC j task start (((((j.ab.g task.toNat).au).length:Nat):Int) - 0).toNat 0 (aj.set task.toNat true) (ar.set task.toNat start) aL).1,(jC j task start (((((j.ab.g task.toNat).au).length:Nat):Int) - 0).toNat 0 (aj.set task.toNat true) (ar.set task.toNat start) aL).2.1,(jC j task start (((((j.ab.g task.toNat).au).length:Nat):Int) - 0).toNat 0 (aj.set task.toNat true) (ar.set task.toNat start) aL).2.2)
theorem abI {d:Nat} {h hh:aw} {aP placedN aR startsN talliesB talliesN:Nat} {talliesF:Bool} (j:cG) (aj:List Bool) (ar:List Int) (aL:List Tl) (task:Int) (start:Int) (bZ:aG.ok h j) (bQ:hh.get aP=some (aH.cells (bs aj) 4 false)) (qn:aj.length=placedN) (sj:h.get aP=none) (b5:hh.get aR=some (aH.cells (zs .i64 ar) 3 false)) (sm:ar.length=startsN) (sq:h.get aR=none) (eg:hh.get talliesB=some (aH.cells (kL aL) 127 false)) (I8:aL.length=talliesN) (I9:h.get talliesB=none) (nE:0≤task) (qI:task<(j.ab.length:Int)) (yS:aj.length=j.ab.length) (Ar:ar.length=j.ab.length) (DJ:∀q,q<(j.ab.g task.toNat).au.length→0≤((j.ab.g task.toNat).au.g q).ah∧((j.ab.g task.toNat).au.g q).ah<(aL.length:Int)) (Uh:∀a,a<(j.ab.g task.toNat).au.length→∀b,a<b→b<(j.ab.g task.toNat).au.length→((j.ab.g task.toNat).au.g a).ah≠((j.ab.g task.toNat).au.g b).ah) (pre6:0≤start) (Ui:start+(j.ab.g task.toNat).takes≤100000) (abJ:0≤(j.ab.g task.toNat).takes) (ND:∀q,q<(j.ab.g task.toNat).au.length→Az 159 (aL.g (Int.toNat ((j.ab.g task.toNat).au.g q).ah))) (Uj:aR≠aP) (ah3:talliesB≠aP) (ah4:talliesB≠aR) (ct:Tidy h) (aA:Tidy hh) (ay:Has h hh) (ij:h.nx≤hh.nx):∃hk,cU (d+3) (.fn 72) [(AV.agg [j.ao,j.ai,(AV.slice aP 0 placedN placedN false),(AV.slice aR 0 startsN startsN false),(AV.slice talliesB 0 talliesN talliesN talliesF)]),(Zi task),(Zi start)] hh= .ret (AV.tuple []) hk∧Tidy hk∧hh.nx≤hk.nx∧Has h hk∧hk.get aP=some (aH.cells (bs ((jN j aj ar aL task start).1)) 4 false)∧((jN j aj ar aL task start).1).length=placedN∧hk.get aR=some (aH.cells (zs .i64 ((jN j aj ar aL task start).2.1)) 3 false)∧((jN j aj ar aL task start).2.1).length=startsN∧hk.get talliesB=some (aH.cells (kL ((jN j aj ar aL task start).2.2)) 127 false)∧((jN j aj ar aL task start).2.2).length=talliesN:=by
 have eT:=bZ.1.small
 have eU:=bZ.2.small
 have sr:=aA _ _ bQ
 have ss:=aA _ _ b5
 have I_:=aA _ _ eg
 obtain ⟨h1,dH,cP,kr,bk,bW⟩:=kh aA (aH.cells [j.ao,j.ai,(AV.slice aP 0 placedN placedN false),(AV.slice aR 0 startsN startsN false),(AV.slice talliesB 0 talliesN talliesN talliesF)] 76 false)
 have bB:Has h h1:=ay.trans bW
 obtain ⟨p3,q4,cF⟩:=bZ.1.elem (i:=task.toNat) o!
 have jL:bR env (some (.slice 39)) (some j.ao) (some (Zi task))=some (AV.ptr p3 q4):=by rw[show (task:Int)=((task.toNat:Nat):Int) by omega];exact cF
 have j9:aY env h1 39 (AV.ptr p3 q4)=some (AV.agg [(AV.str ((j.ab.g task.toNat).name)),(Zi ((j.ab.g task.toNat).takes)),((j.ab.g task.toNat).aO),((j.ab.g task.toNat).aS)]):=(bZ.1.has bB).load o! cF
 obtain ⟨h6,nU,kM,Ce,nV,cE⟩:=kh cP (aH.cells [(AV.str []),(Zi 0),AV.aD,AV.aD] 39 false)
 have jA:Has h h6:=bB.trans cE
 have PX:AV.scalar ((j.ab.g task.toNat).aO)=true:=((bZ.1.ok (i:=task.toNat) o!).2.1).scalar
 have XI:AV.scalar ((j.ab.g task.toNat).aS)=true:=((bZ.1.ok (i:=task.toNat) o!).2.2).scalar
 obtain ⟨h7,m8,eO,xA,f_,bD⟩:=qi (t:=39) (n:=4) (i:=h1.nx) (L:=[(AV.str ((j.ab.g task.toNat).name)),(Zi ((j.ab.g task.toNat).takes)),((j.ab.g task.toNat).aO),((j.ab.g task.toNat).aS)]) kM nV k! rfl rfl (by simp only[AV.cells,List.all_cons,List.all_nil,Bool.and_true,Bool.and_self,iE,gd,iF,iG,eP,lF,lG,lH,lI,lJ,iH,PX,XI])
 have du:Has h h7:=Has.ei jA bD ct o!
 have P4:bR env (some (.slice 4)) (some (AV.slice aP 0 placedN placedN false)) (some (Zi task))=some (AV.ptr aP task.toNat):=jw k! (show task.toNat<placedN by omega) o!
 obtain ⟨uX,vU⟩:∃KY:aw,KY=h7.put aP (some (aH.cells (bs (aj.set task.toNat true)) 4 false)):=⟨_,rfl⟩
 have F2:dW env h7 4 (AV.ptr aP task.toNat) (AV.bool true)=some uX:=by rw[vU];exact r7 k! (bD _ _ o! (cE _ _ (bW _ _ bQ))) l!
 have fP:KA h7 uX aP (aH.cells (bs (aj.set task.toNat true)) 4 false):=by rw[vU];exact kE eO (bD _ _ o! (cE _ _ (bW _ _ bQ)))
 have uD:=fP.1
 have XB:uX.nx=h7.nx:=by rw[vU];rfl
 have AF:Has h uX:=jz fP du si
 have P5:bR env (some (.slice 3)) (some (AV.slice aR 0 startsN startsN false)) (some (Zi task))=some (AV.ptr aR task.toNat):=jw k! (show task.toNat<startsN by omega) o!
 obtain ⟨lU,Ga⟩:∃KY:aw,KY=uX.put aR (some (aH.cells (zs .i64 (ar.set task.toNat start)) 3 false)):=⟨_,rfl⟩
 have NF:dW env uX 3 (AV.ptr aR task.toNat) (Zi start)=some lU:=by rw[Ga];exact Ap k! (fP.2.2 _ _ o! (bD _ _ o! (cE _ _ (bW _ _ b5)))) l!
 have po:KA uX lU aR (aH.cells (zs .i64 (ar.set task.toNat start)) 3 false):=by rw[Ga];exact kE uD (fP.2.2 _ _ o! (bD _ _ o! (cE _ _ (bW _ _ b5))))
 have g7:=po.1
 have XJ:lU.nx=uX.nx:=by rw[Ga];rfl
 have iB:Has h lU:=jz po AF si
 have XK:cc (some (.slice 80)) (some ((j.ab.g task.toNat).aS))=some (Zn (((j.ab.g task.toNat).au).length)):=((bZ.1.ok (i:=task.toNat) o!).2.2).len
 obtain ⟨amq,ah5,O0,AL,I',XL,P6,ajh,aji,Sl,Sm,Sn,abK,abL,ajj,ah6⟩:=cA.n rfl (F7 (d:=d) (h:=h) start j task placedN startsN talliesN talliesF aj ar aL hh.nx h1.nx aP aR talliesB ((bZ.1.ok (i:=task.toNat) o!).2.2) bZ.1 bZ.2 ((bZ.1.ok (i:=task.toNat) o!).1) ((bZ.1.ok (i:=task.toNat) o!).2.1) bZ (bZ.1.ok (i:=task.toNat) o!) o! o! o! o! (by assumption) (by assumption) o! o! o! (by assumption) o! ct o! o! si si si o! o! o! o! o! o! o! o! o! o! (((((j.ab.g task.toNat).au).length:Nat):Int) - 0).toNat 0 (aj.set task.toNat true) (ar.set task.toNat start) aL o! (show (((0:Int)≤1)∧(0≤0∧∀q:Nat,0≤(q:Int)→q<(j.ab.g task.toNat).au.length→Az 159 ((aL).g (Int.toNat ((j.ab.g task.toNat).au.g q).ah)))) from ⟨by omega,by omega,fun q _ hq=>ND q hq⟩) (fun k_=>(((AV.agg [j.ao,j.ai,(AV.slice aP 0 placedN placedN false),(AV.slice aR 0 startsN startsN false),(AV.slice talliesB 0 talliesN talliesN talliesF)])::(Zi task)::(Zi start)::(Pt hh.nx)::AV.undef::AV.undef::(Pt h1.nx)::AV.undef::AV.undef::(Pt hh.nx)::(Pt hh.nx)::j.ao::(Zi task)::(AV.ptr p3 q4)::(AV.agg [(AV.str ((j.ab.g task.toNat).name)),(Zi ((j.ab.g task.toNat).takes)),((j.ab.g task.toNat).aO),((j.ab.g task.toNat).aS)])::(AV.ptr hh.nx 2)::(AV.slice aP 0 placedN placedN false)::(Zi task)::(AV.ptr hh.nx 3)::(AV.slice aR 0 startsN startsN false)::(Zi task)::(Zi start)::(AV.ptr aP task.toNat)::(AV.ptr aR task.toNat)::(AV.ptr h1.nx 3)::((j.ab.g task.toNat).aS)::(Zn (((j.ab.g task.toNat).au).length))::(Zi 0)::lk 19):List AV).getD k_ AV.undef) lU g7 iB o! l! l! l! (po.2.2 _ _ o! (fP.2.2 _ _ o! (bD _ _ o! (cE _ _ bk)))) (po.2.2 _ _ o! (fP.2.2 _ _ o! f_)) (po.2.2 _ _ o! fP.2.1) po.2.1 (po.2.2 _ _ o! (fP.2.2 _ _ o! (bD _ _ o! (cE _ _ (bW _ _ eg))))))
 have Dh:Has h O0:=P6
 have e:jN j aj ar aL task start=((jC j task start (((((j.ab.g task.toNat).au).length:Nat):Int) - 0).toNat 0 (aj.set task.toNat true) (ar.set task.toNat start) aL).1,(jC j task start (((((j.ab.g task.toNat).au).length:Nat):Int) - 0).toNat 0 (aj.set task.toNat true) (ar.set task.toNat start) aL).2.1,(jC j task start (((((j.ab.g task.toNat).au).length:Nat):Int) - 0).toNat 0 (aj.set task.toNat true) (ar.set task.toNat start) aL).2.2):=by simp only[jN,cond_true,cond_false]
 rw[e]
 exact fU rfl (aZ Tryz.func72 abE rfl (.inl rfl) (pk (d+2) _ _ hh _ O0 (NN dH (fun i=>(Pt i))<|CN 2<|MM (aI 22 0 j.ao bk k!)<|CC<|VV jL<|MM j9<|NN nU (fun i=>(Pt i))<|SS m8<|CC<|MM (aI 73 2 (AV.slice aP 0 placedN placedN false) (bD _ _ o! (cE _ _ bk)) k!)<|CN 2<|MM (aI 26 3 (AV.slice aR 0 startsN startsN false) (bD _ _ o! (cE _ _ bk)) k!)<|CN 2<|VV P4<|SS F2<|VV P5<|SS NF<|HH (aI 73 2 (AV.slice aP 0 placedN placedN false) (bD _ _ o! (cE _ _ bk)) k!)<|HH (show AV.same 20 (AV.slice aP 0 placedN placedN false) (AV.slice aP 0 placedN placedN false)=true from jg 19 _ _ _ _ _)<|HH (aI 26 3 (AV.slice aR 0 startsN startsN false) (bD _ _ o! (cE _ _ bk)) k!)<|HH (show AV.same 20 (AV.slice aR 0 startsN startsN false) (AV.slice aR 0 startsN startsN false)=true from jg 19 _ _ _ _ _)<|HH (aI 26 3 (AV.slice aR 0 startsN startsN false) (fP.2.2 _ _ o! (bD _ _ o! (cE _ _ bk))) k!)<|HH (show AV.same 20 (AV.slice aR 0 startsN startsN false) (AV.slice aR 0 startsN startsN false)=true from jg 19 _ _ _ _ _)<|CC<|MM (aI 37 3 ((j.ab.g task.toNat).aS) (po.2.2 _ _ o! (fP.2.2 _ _ o! f_)) k!)<|VV XK<|CC<|LL AL<|ZZ) k!) k!) aA I' o! ⟨Dh,Sl,l!,Sm,l!,Sn,l!⟩ (fun q=>⟨ay,cK q bQ Sl,l!,cK q b5 Sm,l!,cK q eg Sn,l!⟩)
noncomputable def P7:Code:=(Tryz.f128.body).getD .skip
theorem So:Tryz.f128.body=some P7:=by kernel_rfl
def vV (t:List Int) (number:Int):Int:=(bif (decide ((number+1)<(t.g 322))) then (t.g ((number+1).toNat*2)) else 100001)
theorem abM {d:Nat} {h:aw} {tP tQ:List AV} {tE:TypeId} (t:List Int) (tB:Nat) (tO:Nat) (number:Int) (Aq:h.get tB=some (aH.cells (tP++zs .i64 t++tQ) tE false)) (aeB:tP.length=tO) (aeC:t.length=324) (nE:0≤t.g 322) (qI:t.g 322≤161) (yS:0≤number) (Ar:number≤1000) (ct:Tidy h):cU (d+1) (.fn 128) [(AV.ptr tB tO),(Zi number)] h= .ret (Zi (vV t number)) h:=by
 have w1:IntKind.i64.wrap (number+1)=number+1:=wrap_i64 o! o!
 have ld2:aY env h 3 (AV.ptr tB (tO+322))=some (Zi (t.g 322)):=(gQ (j:=322) (o:=tO) k! Aq o! l! o!)
 have dR:=fun {al ps} (k:Pk al _ ps)=>(CN 2<|VV (rn 3 false true w1)<|CN 3<|MM ld2<|VV (bO 3 false false .i64 (number+1) (t.g 322))<|k:Pk _ [] ps)
 rcases Bool.eq_false_or_eq_true (decide ((number+1)<(t.g 322))) with f0 | f0
 · have dx:=of_decide_eq_true f0
   have w4:IntKind.i64.wrap (number+1)=number+1:=wrap_i64 o! o!
   have ix5:bR env (some (.array 161 124)) (some (AV.ptr tB (tO+0))) (some (Zi (number+1)))=some (AV.ptr tB ((tO+0)+(number+1).toNat*2)):=m7 (z:=2) (k:=(number+1).toNat) k! o! o!
   have rC:aY env h 3 (AV.ptr tB (((tO+0)+(number+1).toNat*2)+0))=some (Zi (t.g ((number+1).toNat*2))):=(gQ (j:=(number+1).toNat*2) (o:=tO) k! Aq o! l! o!)
   have e:vV t number=(t.g ((number+1).toNat*2)):=by simp only[vV,f0,cond_true,cond_false]
   rw[e]
   exact aE rfl (aZ Tryz.func128 So rfl (.inr rfl) (pk (d) _ _ h _ h (dR<|BB f0<|CN 2<|VV (rn 3 false true w4)<|CN 2<|VV ix5<|CC<|MM rC<|CC<|ZZ) k!) k!) (Has.refl _) rfl
 · have dx:=of_decide_eq_false f0
   have e:vV t number=100001:=by simp only[vV,f0,cond_true,cond_false]
   rw[e]
   exact aE rfl (aZ Tryz.func128 So rfl (.inr rfl) (pk (d) _ _ h _ h (dR<|BC f0<|ZZ) k!) k!) (Has.refl _) rfl
theorem tK {p:Prop} (h:p:=by first | omega | assumption | (simp only[List.length_set,List.length_replicate,List.length_append,List.length_cons,List.length_nil,List.nil_append]<;>omega) | (rw[List.length_take];omega)):p:=h
noncomputable def AM:Code:=(Tryz.f111.body).getD .skip
theorem Uk:Tryz.f111.body=some AM:=by kernel_rfl
noncomputable def NG:Code:=(bw AM).getD 0 .skip
def eA (t:List Int) (takes:Int) (pieces:Int):Nat→Nat→Int→Int
 | 0,_,vW=>vW
 | cS+1,i0,vW=>(bif (decide ((IntKind.i64.wrap (vW+takes))≤(t.g (i0*2)))) then vW else (bif (decide ((t.g 323)<(IntKind.i64.wrap ((t.g (i0*2+1))+pieces)))) then eA t takes pieces cS (i0+1) (imax vW (vV t ((i0:Nat):Int))) else eA t takes pieces cS (i0+1) vW))
theorem tL {d:Nat} {h:aw} (tO:Nat) (takes:Int) (pieces:Int) (t:List Int) (tP:List AV) (tQ:List AV) (tE:TypeId) (a_:Nat) (fq:0≤t.g 322) (hH:t.g 322≤161) (ly:tP.length=tO) (mw:t.length=324):∀(k_ i_:Nat) (vW:Int) (_:i_+k_=(t.g 322).toNat) (x:Nat→AV) (hh:aw) (aA:Tidy hh) (ay:Has h hh) (bh:hh.get a_=some (aH.cells (tP++zs .i64 t++tQ) tE false)),bt (cU (d+1)) NG ⟨((AV.ptr a_ tO)::(Zi vW)::(Zi takes)::(Zi pieces)::rx x 4 14 ((AV.slice a_ (tO+0) (t.g 322).toNat 161 false)::(Zn ((t.g 322).toNat))::(Zn i_)::rx x 21 26 [])),hh,[],.no⟩ (.exit 0) hh (fun r y=>((AV.ptr a_ tO)::(Zi r)::(Zi takes)::(Zi pieces)::rx y 4 14 ((AV.slice a_ (tO+0) (t.g 322).toNat 161 false)::(Zn ((t.g 322).toNat))::rx y 20 27 []))) (fun r=>True) (eA t takes pieces k_ i_ vW)
 | 0,i0,vW,gq,x,hh,aA,ay,bh=>by
   have ji:=aA _ _ bh
   have q1:(decide (((i0:Nat):Int)<(((t.g 322).toNat:Nat):Int)))=false:=d!
   exact bt.out vW rfl (pk (d+1) _ _ hh _ hh (VV (bO 3 false false .i64 ((i0:Nat):Int) (((t.g 322).toNat:Nat):Int))<|BB q1<|ZZ) k!) (bp.refl aA) trivial k!
 | cS+1,i0,vW,gq,x,hh,aA,ay,bh=>by
   have ji:=aA _ _ bh
   have q1:(decide (((i0:Nat):Int)<(((t.g 322).toNat:Nat):Int)))=true:=d!
   have jL:bR env (some (.slice 124)) (some (AV.slice a_ (tO+0) (t.g 322).toNat 161 false)) (some (Zn i0))=some (AV.ptr a_ ((tO+0)+i0*2)):=KH (z:=2) (k:=i0) k! o! o!
   have ld3:aY env hh 124 (AV.ptr a_ ((tO+0)+i0*2))=some (AV.agg [(Zi (t.g (i0*2))),(Zi (t.g (i0*2+1)))]):=(TZ (j:=i0*2) (o:=tO) k! k! bh o! l! o!)
   obtain ⟨h4,Ul,nW,ah7,XN,HS⟩:=kh aA (aH.cells [(Zi 0),(Zi 0)] 124 false)
   have nJ:Has hh h4:=HS
   obtain ⟨h5,aeE,kK,ahH,XF,NH⟩:=qi (t:=124) (n:=2) (i:=hh.nx) (L:=[(Zi (t.g (i0*2))),(Zi (t.g (i0*2+1)))]) nW XN k! rfl rfl (by simp only[AV.cells,List.all_cons,List.all_nil,Bool.and_true,Bool.and_self,iE,gd,iF,iG,eP,lF,lG,lH,lI,lJ,iH])
   have gE:Has hh h5:=Has.ei nJ NH aA o!
   have dR:=fun {al ps} (k:Pk al _ ps)=>(VV (bO 3 false false .i64 ((i0:Nat):Int) (((t.g 322).toNat:Nat):Int))<|BC q1<|VV jL<|MM ld3<|NN Ul (fun i=>(Pt i))<|CC<|SS aeE<|CC<|MM (aI 3 0 (Zi (t.g (i0*2))) XF k!)<|CN 3<|VV (pc 3 false false .i64 (t.g (i0*2)) (IntKind.i64.wrap (vW+takes)))<|k:Pk _ [] ps)
   rcases Bool.eq_false_or_eq_true (decide ((IntKind.i64.wrap (vW+takes))≤(t.g (i0*2)))) with f1 | f1
   · have dQ:=of_decide_eq_true f1
     exact bt.out vW (by simp only[eA,f1,cond_true,cond_false]) (pk (d+1) _ _ hh _ h5 (dR<|BB f1<|ZZ) k!) (⟨kK,gE,by omega⟩) trivial k!
   · have dQ:=of_decide_eq_false f1
     have KO:aY env h5 3 (AV.ptr a_ (tO+323))=some (Zi (t.g 323)):=(gQ (j:=323) (o:=tO) k! (NH _ _ o! (HS _ _ bh)) o! l! o!)
     have hI:=fun {al ps} (k:Pk al _ ps)=>(dR<|BC f1<|MM (aI 3 1 (Zi (t.g (i0*2+1))) XF k!)<|CN 5<|MM KO<|VV (dw 3 false false .i64 (IntKind.i64.wrap ((t.g (i0*2+1))+pieces)) (t.g 323))<|HH (aI 3 1 (Zi (t.g (i0*2+1))) XF k!)<|HH (show AV.same 20 (Zi (t.g (i0*2+1))) (Zi (t.g (i0*2+1)))=true from aK 19 _ _)<|HH KO<|HH (show AV.same 20 (Zi (t.g 323)) (Zi (t.g 323))=true from aK 19 _ _)<|k:Pk _ [] ps)
     rcases Bool.eq_false_or_eq_true (decide ((t.g 323)<(IntKind.i64.wrap ((t.g (i0*2+1))+pieces)))) with f2 | f2
     · have jZ:=of_decide_eq_true f2
       have k9:=abM (d:=d) t a_ tO ((i0:Nat):Int) (NH _ _ o! (HS _ _ bh)) o! l! tK tK tK tK kK
       have u10:=dZ 3 false true i0 1 o!
       exact bt.round (by simp only[eA,f1,f2,cond_true,cond_false]) (pk (d+1) _ _ hh _ h5 (hI<|BB f2<|CN 3<|EE k9<|CN 2<|VV u10<|CC<|ZZ) k!) (⟨kK,gE,by omega⟩) _ k! (fun x=>tL tO takes pieces t tP tQ tE a_ fq hH ly mw cS (i0+1) (imax vW (vV t ((i0:Nat):Int))) o! x h5 kK (ay.trans gE) (NH _ _ o! (HS _ _ bh)))
     · have jZ:=of_decide_eq_false f2
       have u9:=dZ 3 false true i0 1 o!
       exact bt.round (by simp only[eA,f1,f2,cond_true,cond_false]) (pk (d+1) _ _ hh _ h5 (hI<|BV f2 u9<|CC<|ZZ) k!) (⟨kK,gE,by omega⟩) _ k! (fun x=>tL tO takes pieces t tP tQ tE a_ fq hH ly mw cS (i0+1) vW o! x h5 kK (ay.trans gE) (NH _ _ o! (HS _ _ bh)))
def m_ (t:List Int) (from_:Int) (takes:Int) (pieces:Int):Int:=(eA t takes pieces (t.g 322).toNat 0 from_)
theorem Um {d:Nat} {h:aw} {tP tQ:List AV} {tE:TypeId} (t:List Int) (tB:Nat) (tO:Nat) (from_:Int) (takes:Int) (pieces:Int) (Aq:h.get tB=some (aH.cells (tP++zs .i64 t++tQ) tE false)) (aeB:tP.length=tO) (aeC:t.length=324) (nE:0≤t.g 322) (qI:t.g 322≤161) (ct:Tidy h):cU (d+2) (.fn 111) [(AV.ptr tB tO),(Zi from_),(Zi takes),(Zi pieces)] h= .ret (Zi (m_ t from_ takes pieces)) h:=by
 have ld1:aY env h 3 (AV.ptr tB (tO+322))=some (Zi (t.g 322)):=(gQ (j:=322) (o:=tO) k! Aq o! l! o!)
 have sl2:dV env 125 (AV.ptr tB (tO+0)) (none) (some (Zi (t.g 322))) (none)=some (AV.slice tB (tO+0) (t.g 322).toNat 161 false):=Np (e:=124) (size:=2) k! k! (hi:=(t.g 322).toNat) o! o!
 obtain ⟨yl3,h4,nX,fA,tM⟩:=tL (d:=d) (h:=h) tO takes pieces t tP tQ tE tB o! o! o! o! (t.g 322).toNat 0 from_ o! (fun k_=>(((AV.ptr tB tO)::(Zi from_)::(Zi takes)::(Zi pieces)::AV.undef::AV.undef::AV.undef::AV.undef::(Zi 0)::AV.undef::AV.undef::(AV.ptr tB tO)::(AV.ptr tB tO)::(AV.ptr tB (tO+0))::(AV.ptr tB tO)::(AV.ptr tB tO)::(AV.ptr tB (tO+322))::(Zi (t.g 322))::(AV.slice tB (tO+0) (t.g 322).toNat 161 false)::(Zn ((t.g 322).toNat))::(Zi 0)::lk 26):List AV).getD k_ AV.undef) h ct (Has.refl _) Aq
 have nW:=fA.y
 have NI:h.nx≤h4.nx:=fA.n
 have nJ:Has h h4:=fA.a
 have e:m_ t from_ takes pieces=(eA t takes pieces (t.g 322).toNat 0 from_):=by simp only[m_,cond_true,cond_false]
 rw[e]
 exact aE rfl (aZ Tryz.func111 Uk rfl (.inr rfl) (pk (d+1) _ _ h _ h4 (CN 7<|MM ld1<|QQ sl2<|CN 2<|HH ld1<|HH (show AV.same 20 (Zi (t.g 322)) (Zi (t.g 322))=true from aK 19 _ _)<|LL nX<|CN 2<|ZZ) k!) k!) nJ rfl
end Go.Proofs.aJ
