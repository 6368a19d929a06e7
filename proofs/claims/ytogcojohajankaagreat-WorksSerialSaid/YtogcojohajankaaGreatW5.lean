import Derived.Test.YtogcojohajankaaGreatW0
import Derived.Test.YtogcojohajankaaGreatW1
import Derived.Test.YtogcojohajankaaGreatW4
import Derived.Test.YtogcojohajankaaGreatW3
namespace Go.Proofs.aJ
open Go.Proofs Ab
set_option maxRecDepth 100000
set_option maxHeartbeats 4000000
set_option linter.unusedVariables false
set_option linter.unusedSimpArgs false
theorem nj {p:Prop} (h:p:=by first | omega | assumption | (simp only[List.length_replicate];done) | (simp only[List.length_replicate]<;>omega)):p:=h
noncomputable def v5:Code:=(Tryz.f47.body).getD .skip
theorem NY:Tryz.f47.body=some v5:=by kernel_rfl
noncomputable def H8:Code:=(bw v5).getD 0 .skip
def fT (ab:List Task):Nat→Nat→List Int→List Int
 | 0,_,aW=>aW
 | cS+1,i0,aW=>fT ab cS (i0+1) (aW.set i0 ((i0:Nat):Int))
theorem v7 {d:Nat} {h:aw} (ao:AV) (ab:List Task) (a_:Nat) (bb:aM h ao ab) (fq:∀i,i<ab.length→∀q,q<(ab.g i).ax.length→0≤(ab.g i).ax.g q∧(ab.g i).ax.g q<(ab.length:Int)) (hH:ab.length≤100000) (ct:Tidy h) (tA:h.nx≤a_):∀(k_ i_:Nat) (aW:List Int) (_:i_+k_=ab.length) (_:(∀q,q<(aW).length→0≤(aW).g q∧(aW).g q<(ab.length:Int))) (x:Nat→AV) (hh:aw) (aA:Tidy hh) (ay:Has h hh) (ij:h.nx≤hh.nx) (iS:aW.length=ab.length) (bh:hh.get a_=some (aH.cells (zs .i64 aW) 3 false)),cA (σ:=List Int) (ρ:=Unit) (cU (d+5)) H8 ⟨(ao::(x 1)::(x 2)::(AV.slice a_ 0 ab.length ab.length false)::rx x 4 5 ((Zn ab.length)::(Zn i_)::rx x 11 13 [])),hh,[],.no⟩ (.exit 0) hh (fun r z y=>(ao::(y 1)::(y 2)::(AV.slice a_ 0 ab.length ab.length false)::rx y 4 5 ((Zn ab.length)::rx y 10 14 []))) (fun r z y=>(ao::(y 1)::(y 2)::(AV.slice a_ 0 ab.length ab.length false)::rx y 4 5 ((Zn ab.length)::rx y 10 14 []))) (fun r z hk=>Has h hk∧hk.get a_=some (aH.cells (zs .i64 r) 3 false)∧r.length=ab.length∧(∀q,q<(r).length→0≤(r).g q∧(r).g q<(ab.length:Int))) (fun r z hk=>Has h hk) (Sum.inl (fT ab k_ i_ aW))
 | 0,i0,aW,gq,fV,x,hh,aA,ay,ij,iS,bh=>by
   have cr:=bb.small
   have ji:=aA _ _ bh
   have q1:(decide (((i0:Nat):Int)<((ab.length:Nat):Int)))=false:=d!
   exact cA.out aW AV.undef rfl (pk (d+5) _ _ hh _ hh (VV (bO 3 false false .i64 ((i0:Nat):Int) ((ab.length:Nat):Int))<|BB q1<|ZZ) k!) aA o! ⟨ay,bh,l!,(show (∀q,q<(aW).length→0≤(aW).g q∧(aW).g q<(ab.length:Int)) from (by first | exact fV | exact Sq fV o! o!))⟩ k!
 | cS+1,i0,aW,gq,fV,x,hh,aA,ay,ij,iS,bh=>by
   have cr:=bb.small
   have ji:=aA _ _ bh
   have q1:(decide (((i0:Nat):Int)<((ab.length:Nat):Int)))=true:=d!
   have jL:bR env (some (.slice 3)) (some (AV.slice a_ 0 ab.length ab.length false)) (some (Zn i0))=some (AV.ptr a_ i0):=jw k! (show i0<ab.length by omega) o!
   obtain ⟨h3,afe⟩:∃KY:aw,KY=hh.put a_ (some (aH.cells (zs .i64 (aW.set i0 ((i0:Nat):Int))) 3 false)):=⟨_,rfl⟩
   have akJ:dW env hh 3 (AV.ptr a_ i0) (Zn i0)=some h3:=by rw[afe];exact Ap k! bh l!
   have aff:KA hh h3 a_ (aH.cells (zs .i64 (aW.set i0 ((i0:Nat):Int))) 3 false):=by rw[afe];exact kE aA bh
   have l9:=aff.1
   have akK:h3.nx=hh.nx:=by rw[afe];rfl
   have iy:Has h h3:=aff.has ay ct o!
   have u4:=dZ 3 false true i0 1 o!
   exact cA.round (congrArg Sum.inl (by simp only[fT,cond_true,cond_false])) (pk (d+5) _ _ hh _ h3 (VV (bO 3 false false .i64 ((i0:Nat):Int) ((ab.length:Nat):Int))<|BB q1<|CN 5<|VV jL<|SS akJ<|VV u4<|CC<|ZZ) k!) o! _ k! (fun x=>v7 ao ab a_ bb fq hH ct tA cS (i0+1) (aW.set i0 ((i0:Nat):Int)) o! (show (∀q,q<((aW.set i0 ((i0:Nat):Int))).length→0≤((aW.set i0 ((i0:Nat):Int))).g q∧((aW.set i0 ((i0:Nat):Int))).g q<(ab.length:Int)) from (by first | exact fV | exact Sq fV o! o!)) x h3 l9 iy o! l! aff.2.1)
def eX (ab:List Task):List Int:=(aF ab (fT ab ab.length 0 (List.replicate ab.length 0)) (List.replicate ab.length false))
theorem NZ {d:Nat} {h:aw} {ao:AV} (ab:List Task) (lD:aM h ao ab) (nE:∀i,i<ab.length→∀q,q<(ab.g i).ax.length→0≤(ab.g i).ax.g q∧(ab.g i).ax.g q<(ab.length:Int)) (qI:ab.length≤100000) (ct:Tidy h):∃z hk,cU (d+6) (.fn 47) [ao] h= .ret z hk∧bp h hk∧bS hk .i64 3 z (eX ab)∧gK 3 h hk z (zs .i64 (eX ab)):=by
 have Jf:=lD.small
 have gL:cc (some (.slice 39)) (some ao)=some (Zn ab.length):=lD.len
 have mk2:vI env (some (.slice 3)) (some (Zn ab.length)) (some (Zn ab.length))=some (aH.cells (bP [(Zi 0)] ab.length) 3 false,fun i=>AV.slice i 0 ab.length ab.length false):=mF (bytes:=8) (z:=(Zi 0)) k! k! k! rfl (by decide) o!
 obtain ⟨h3,akL,l9,akK,akM,akN⟩:=kh ct (aH.cells (bP [(Zi 0)] ab.length) 3 false)
 have iy:Has h h3:=akN
 have aih:h3.get h.nx=some (aH.cells (zs .i64 (List.replicate ab.length 0)) 3 false):=by have q:=akM;rw[FE] at q;exact q
 obtain ⟨zo6,xB,h5,dX,kK,tC,Sa,afg,aeI,Sx⟩:=cA.n rfl (v7 (d:=d) (h:=h) ao ab h.nx lD (by assumption) o! ct o! ab.length 0 (List.replicate ab.length 0) o! (show (∀q,q<((List.replicate ab.length 0)).length→0≤((List.replicate ab.length 0)).g q∧((List.replicate ab.length 0)).g q<(ab.length:Int)) from (abQ)) (fun k_=>((ao::AV.undef::AV.aD::(AV.slice h.nx 0 ab.length ab.length false)::AV.undef::ao::(Zn ab.length)::(AV.slice h.nx 0 ab.length ab.length false)::(AV.slice h.nx 0 ab.length ab.length false)::(Zn ab.length)::(Zi 0)::lk 13):List AV).getD k_ AV.undef) h3 l9 iy o! l! aih)
 have gE:Has h h5:=Sa
 have ln7:cc (some (.slice 39)) (some ao)=some (Zn ab.length):=lD.len
 have mk8:vI env (some (.slice 4)) (some (Zn ab.length)) (some (Zn ab.length))=some (aH.cells (bP [(AV.bool false)] ab.length) 4 false,fun i=>AV.slice i 0 ab.length ab.length false):=mF (bytes:=1) (z:=(AV.bool false)) k! k! k! rfl (by decide) o!
 obtain ⟨h9,aeU,pF,aeV,abz,AH⟩:=kh kK (aH.cells (bP [(AV.bool false)] ab.length) 4 false)
 have my:Has h h9:=gE.trans AH
 have Eh:Has h5 h9:=AH
 have aii:h9.get h5.nx=some (aH.cells (bs (List.replicate ab.length false)) 4 false):=by have q:=abz;rw[yP] at q;exact q
 obtain ⟨z10,pL,XG,eN,akO,aij⟩:=tU (d:=d) ab (fT ab ab.length 0 (List.replicate ab.length 0)) (List.replicate ab.length false) h5.nx ab.length false (lD.has my) (bS.own (op:=false) (n:=ab.length) k! k! (AH _ _ afg) l! o!) aii l! o! nj nj nj nj nj pF
 have qm:=eN.y
 have XH:h9.nx≤pL.nx:=eN.n
 have jM:Has h pL:=my.trans eN.a
 have aik:Has h5 pL:=Eh.trans eN.a
 have akP:=akO.small
 have e:eX ab=(aF ab (fT ab ab.length 0 (List.replicate ab.length 0)) (List.replicate ab.length false)):=by simp only[eX,cond_true,cond_false]
 rw[e]
 have oz:=gK.le (h0:=h) aij o!
 exact ⟨z10,eu rfl (aZ Tryz.func47 NY rfl (.inr rfl) (pk (d+5) _ _ h _ pL (CN 2<|VV gL<|KK mk2 akL<|CN 4<|LL dX<|CN 3<|VV ln7<|KK mk8 aeU<|EE XG<|CC<|ZZ) k!) k!) ct ⟨qm,jM,by omega⟩ (P:=fun hh=>bS hh .i64 3 z10 (aF ab (fT ab ab.length 0 (List.replicate ab.length 0)) (List.replicate ab.length false))∧gK 3 h hh z10 (zs .i64 (aF ab (fT ab ab.length 0 (List.replicate ab.length 0)) (List.replicate ab.length false)))) ⟨oz.zs o! k! k!,oz⟩ fun v=>⟨oz.W8 v k! k!,oz.Xa v⟩⟩
noncomputable def oL:Code:=(Tryz.f44.body).getD .skip
theorem nk:Tryz.f44.body=some oL:=by kernel_rfl
noncomputable def xE:Code:=(bw oL).getD 0 .skip
def eB (P:Nat→Int) (list:List Task):Nat→Nat→Option (Int)
 | 0,_=>none
 | cS+1,i0=>(bif (!decide ((P i0)=0)) then some (P i0) else eB P list cS (i0+1))
theorem oM {d:Nat} {h:aw} (bK:AV) (g:FuncId) (cap:List AV) (list:List Task) (P:Nat→Int) (bb:aM h bK list) (hP:∀j,j<list.length→∀aV hh,Tidy hh→Has h hh→aM hh aV (list.take j)→cU d (.fn g) (aV:: .agg (aG.c (list.g j))::cap) hh= .ret (.int .i64 (P j)) hh):∀(k_ i_:Nat) (_:i_+k_=list.length) (x:Nat→AV) (hh:aw) (aA:Tidy hh) (ay:Has h hh),aC (cU (d)) xE ⟨(bK::(x 1)::(AV.func g [] cap)::rx x 3 11 (bK::(Zn list.length)::(Zn i_)::rx x 17 14 [])),hh,[],.no⟩ (.exit 0) hh (fun y=>(bK::(y 1)::(AV.func g [] cap)::rx y 3 11 (bK::(Zn list.length)::rx y 16 15 []))) (fun r y=>(bK::(y 1)::(AV.func g [] cap)::rx y 3 3 ((Zi r)::rx y 7 7 (bK::(Zn list.length)::rx y 16 15 [])))) (eB P list k_ i_)
 | 0,i0,gq,x,hh,aA,ay=>by
   have cr:=bb.small
   have q1:(decide (((i0:Nat):Int)<((list.length:Nat):Int)))=false:=d!
   exact aC.out rfl (pk (d) _ _ hh _ hh (VV (bO 3 false false .i64 ((i0:Nat):Int) ((list.length:Nat):Int))<|BB q1<|ZZ) k!) (bp.refl aA) k!
 | cS+1,i0,gq,x,hh,aA,ay=>by
   have cr:=bb.small
   have q1:(decide (((i0:Nat):Int)<((list.length:Nat):Int)))=true:=d!
   obtain ⟨p3,q4,cF⟩:=(bb.has ay).elem (i:=i0) o!
   have jL:bR env (some (.slice 39)) (some bK) (some (Zn i0))=some (AV.ptr p3 q4):=cF
   have j9:aY env hh 39 (AV.ptr p3 q4)=some (AV.agg [(AV.str ((list.g i0).name)),(Zi ((list.g i0).takes)),((list.g i0).aO),((list.g i0).aS)]):=(bb.has ay).load o! cF
   obtain ⟨h6,nU,kM,Ce,nV,cE⟩:=kh aA (aH.cells [(AV.str []),(Zi 0),AV.aD,AV.aD] 39 false)
   have jA:Has hh h6:=cE
   have PX:AV.scalar ((list.g i0).aO)=true:=(((bb.has ay).ok (i:=i0) o!).2.1).scalar
   have XI:AV.scalar ((list.g i0).aS)=true:=(((bb.has ay).ok (i:=i0) o!).2.2).scalar
   obtain ⟨h7,m8,eO,xA,f_,bD⟩:=qi (t:=39) (n:=4) (i:=hh.nx) (L:=[(AV.str ((list.g i0).name)),(Zi ((list.g i0).takes)),((list.g i0).aO),((list.g i0).aS)]) kM nV k! rfl rfl (by simp only[AV.cells,List.all_cons,List.all_nil,Bool.and_true,Bool.and_self,iE,gd,iF,iG,eP,lF,lG,lH,lI,lJ,iH,PX,XI])
   have du:Has hh h7:=Has.ei jA bD aA o!
   obtain ⟨r10,ail,akQ⟩:=(bb.has ay).pre (t:=22) k! (i:=i0) o!
   have Xf:dV env 22 bK (none) (some (Zn i0)) (none)=some r10:=ail
   have k13:=hP i0 o! r10 h7 eO (ay.trans du) (akQ.has du)
   have U':AV.same 20 (AV.agg [(AV.str ((list.g i0).name)),(Zi ((list.g i0).takes)),((list.g i0).aO),((list.g i0).aS)]) (AV.agg [(AV.str ((list.g i0).name)),(Zi ((list.g i0).takes)),((list.g i0).aO),((list.g i0).aS)])=true:=jy 18 (xh (fun n=>kS n _) (xh (fun n=>aK n _ _) (xh (((bb.has ay).ok (i:=i0) o!).2.1).same (xh (((bb.has ay).ok (i:=i0) o!).2.2).same TY))))
   have dR:=fun {al ps} (k:Pk al _ ps)=>(VV (bO 3 false false .i64 ((i0:Nat):Int) ((list.length:Nat):Int))<|BC q1<|VV jL<|MM j9<|NN nU (fun i=>(Pt i))<|CC<|SS m8<|CN 3<|QQ Xf<|MM (aI 39 0 (AV.agg [(AV.str ((list.g i0).name)),(Zi ((list.g i0).takes)),((list.g i0).aO),((list.g i0).aS)]) f_ k!)<|EE k13<|CC<|HH (aI 39 0 (AV.agg [(AV.str ((list.g i0).name)),(Zi ((list.g i0).takes)),((list.g i0).aO),((list.g i0).aS)]) f_ k!)<|HH U'<|CC<|VV (pa 29 false true .i64 (P i0) 0)<|k:Pk _ [] ps)
   rcases Bool.eq_false_or_eq_true (!decide ((P i0)=0)) with f1 | f1
   · have dQ:=HJ f1
     exact aC.ret (P i0) (by simp only[eB,f1,cond_true,cond_false]) (pk (d) _ _ hh _ h7 (dR<|BB f1<|CN 2<|ZZ) k!) (⟨eO,du,by omega⟩) k!
   · have dQ:=HK f1
     have u16:=dZ 3 false true i0 1 o!
     exact aC.round (by simp only[eB,f1,cond_true,cond_false]) (pk (d) _ _ hh _ h7 (dR<|BV f1 u16<|CC<|ZZ) k!) (⟨eO,du,by omega⟩) _ k! (fun x=>oM bK g cap list P bb hP cS (i0+1) o! x h7 eO (ay.trans du))
def bX (list:List Task) (dB:Int) (P:Nat→Int):Int:=(bif (decide (dB<((list.length:Nat):Int))) then 3 else (match (eB P list list.length 0) with | none=>0 | some y8=>y8))
theorem AW {d:Nat} {h:aw} {bK:AV} {g:FuncId} {cap:List AV} (list:List Task) (dB:Int) (P:Nat→Int) (hJ:aM h bK list) (hP:∀j,j<list.length→∀aV hh,Tidy hh→Has h hh→aM hh aV (list.take j)→cU d (.fn g) (aV:: .agg (aG.c (list.g j))::cap) hh= .ret (.int .i64 (P j)) hh) (ct:Tidy h):cU (d+1) (.fn 44) [bK,(Zi dB),(AV.func g [] cap)] h= .ret (Zi (bX list dB P)) h:=by
 have AO:=hJ.small
 have gL:cc (some (.slice 39)) (some bK)=some (Zn list.length):=hJ.len
 have hI:=fun {al ps} (k:Pk al _ ps)=>(CN 2<|VV gL<|CC<|VV (dw 3 false false .i64 ((list.length:Nat):Int) dB)<|k:Pk _ [] ps)
 rcases Bool.eq_false_or_eq_true (decide (dB<((list.length:Nat):Int))) with f0 | f0
 · have dx:=of_decide_eq_true f0
   have e:bX list dB P=3:=by simp only[bX,f0,cond_true,cond_false]
   rw[e]
   exact aE rfl (aZ Tryz.func44 nk rfl (.inr rfl) (pk (d) _ _ h _ h (hI<|BC f0<|ZZ) k!) k!) (Has.refl _) rfl
 · have dx:=of_decide_eq_false f0
   have L8:cc (some (.slice 39)) (some bK)=some (Zn list.length):=hJ.len
   have NR:=oM (d:=d) (h:=h) bK g cap list P hJ hP list.length 0 o! (fun k_=>((bK::(Zi dB)::(AV.func g [] cap)::AV.undef::AV.undef::AV.undef::(Zi 0)::AV.undef::AV.undef::AV.undef::bK::(Zn list.length)::(Zi dB)::(AV.bool (decide (dB<((list.length:Nat):Int))))::bK::(Zn list.length)::(Zi 0)::lk 14):List AV).getD k_ AV.undef) h ct (Has.refl _)
   cases dg:eB P list list.length 0 with
   | none=>
     obtain ⟨xB,h5,dX,dC⟩:=aC.n dg NR
     have kK:=dC.y
     have tC:h.nx≤h5.nx:=dC.n
     have gE:Has h h5:=dC.a
     have e:bX list dB P=0:=by simp only[bX,f0,dg,cond_true,cond_false]
     rw[e]
     exact aE rfl (aZ Tryz.func44 nk rfl (.inr rfl) (pk (d) _ _ h _ h5 (hI<|BC f0<|VV L8<|CC<|LL dX<|CC<|ZZ) k!) k!) gE rfl
   | some y8=>
     obtain ⟨xB,h5,dX,dC⟩:=aC.r dg NR
     have kK:=dC.y
     have tC:h.nx≤h5.nx:=dC.n
     have gE:Has h h5:=dC.a
     have e:bX list dB P=y8:=by simp only[bX,f0,dg,cond_true,cond_false]
     rw[e]
     exact aE rfl (aZ Tryz.func44 nk rfl (.inr rfl) (pk (d) _ _ h _ h5 (hI<|BC f0<|VV L8<|CC<|LL dX<|ZZ) k!) k!) gE rfl
noncomputable def md:Code:=(Tryz.f42.body).getD .skip
theorem ku:Tryz.f42.body=some md:=by kernel_rfl
noncomputable def sA:Code:=(bw md).getD 0 .skip
def cX (P:Nat→Int) (list:List bI):Nat→Nat→Option (Int)
 | 0,_=>none
 | cS+1,i0=>(bif (!decide ((P i0)=0)) then some (P i0) else cX P list cS (i0+1))
theorem me {d:Nat} {h:aw} (bK:AV) (g:FuncId) (cap:List AV) (list:List bI) (P:Nat→Int) (bb:aM h bK list) (hP:∀j,j<list.length→∀aV hh,Tidy hh→Has h hh→aM hh aV (list.take j)→cU d (.fn g) (aV:: .agg (aG.c (list.g j))::cap) hh= .ret (.int .i64 (P j)) hh):∀(k_ i_:Nat) (_:i_+k_=list.length) (x:Nat→AV) (hh:aw) (aA:Tidy hh) (ay:Has h hh),aC (cU (d)) sA ⟨(bK::(x 1)::(AV.func g [] cap)::rx x 3 11 (bK::(Zn list.length)::(Zn i_)::rx x 17 14 [])),hh,[],.no⟩ (.exit 0) hh (fun y=>(bK::(y 1)::(AV.func g [] cap)::rx y 3 11 (bK::(Zn list.length)::rx y 16 15 []))) (fun r y=>(bK::(y 1)::(AV.func g [] cap)::rx y 3 3 ((Zi r)::rx y 7 7 (bK::(Zn list.length)::rx y 16 15 [])))) (cX P list k_ i_)
 | 0,i0,gq,x,hh,aA,ay=>by
   have cr:=bb.small
   have q1:(decide (((i0:Nat):Int)<((list.length:Nat):Int)))=false:=d!
   exact aC.out rfl (pk (d) _ _ hh _ hh (VV (bO 3 false false .i64 ((i0:Nat):Int) ((list.length:Nat):Int))<|BB q1<|ZZ) k!) (bp.refl aA) k!
 | cS+1,i0,gq,x,hh,aA,ay=>by
   have cr:=bb.small
   have q1:(decide (((i0:Nat):Int)<((list.length:Nat):Int)))=true:=d!
   obtain ⟨p3,q4,cF⟩:=(bb.has ay).elem (i:=i0) o!
   have jL:bR env (some (.slice 36)) (some bK) (some (Zn i0))=some (AV.ptr p3 q4):=cF
   have j9:aY env hh 36 (AV.ptr p3 q4)=some (AV.agg [(AV.str ((list.g i0).name)),(Zi ((list.g i0).aB)),((list.g i0).dp)]):=(bb.has ay).load o! cF
   obtain ⟨h6,nU,kM,Ce,nV,cE⟩:=kh aA (aH.cells [(AV.str []),(Zi 0),AV.aD] 36 false)
   have jA:Has hh h6:=cE
   have PX:AV.scalar ((list.g i0).dp)=true:=(((bb.has ay).ok (i:=i0) o!).2).scalar
   obtain ⟨h7,m8,eO,xA,f_,bD⟩:=qi (t:=36) (n:=3) (i:=hh.nx) (L:=[(AV.str ((list.g i0).name)),(Zi ((list.g i0).aB)),((list.g i0).dp)]) kM nV k! rfl rfl (by simp only[AV.cells,List.all_cons,List.all_nil,Bool.and_true,Bool.and_self,iE,gd,iF,iG,eP,lF,lG,lH,lI,lJ,iH,PX])
   have du:Has hh h7:=Has.ei jA bD aA o!
   obtain ⟨r9,aim,akR⟩:=(bb.has ay).pre (t:=23) k! (i:=i0) o!
   have akS:dV env 23 bK (none) (some (Zn i0)) (none)=some r9:=aim
   have k12:=hP i0 o! r9 h7 eO (ay.trans du) (akR.has du)
   have Uf:AV.same 20 (AV.agg [(AV.str ((list.g i0).name)),(Zi ((list.g i0).aB)),((list.g i0).dp)]) (AV.agg [(AV.str ((list.g i0).name)),(Zi ((list.g i0).aB)),((list.g i0).dp)])=true:=jy 18 (xh (fun n=>kS n _) (xh (fun n=>aK n _ _) (xh (((bb.has ay).ok (i:=i0) o!).2).same TY)))
   have dR:=fun {al ps} (k:Pk al _ ps)=>(VV (bO 3 false false .i64 ((i0:Nat):Int) ((list.length:Nat):Int))<|BC q1<|VV jL<|MM j9<|NN nU (fun i=>(Pt i))<|CC<|SS m8<|CN 3<|QQ akS<|MM (aI 36 0 (AV.agg [(AV.str ((list.g i0).name)),(Zi ((list.g i0).aB)),((list.g i0).dp)]) f_ k!)<|EE k12<|CC<|HH (aI 36 0 (AV.agg [(AV.str ((list.g i0).name)),(Zi ((list.g i0).aB)),((list.g i0).dp)]) f_ k!)<|HH Uf<|CC<|VV (pa 29 false true .i64 (P i0) 0)<|k:Pk _ [] ps)
   rcases Bool.eq_false_or_eq_true (!decide ((P i0)=0)) with f1 | f1
   · have dQ:=HJ f1
     exact aC.ret (P i0) (by simp only[cX,f1,cond_true,cond_false]) (pk (d) _ _ hh _ h7 (dR<|BB f1<|CN 2<|ZZ) k!) (⟨eO,du,by omega⟩) k!
   · have dQ:=HK f1
     have u15:=dZ 3 false true i0 1 o!
     exact aC.round (by simp only[cX,f1,cond_true,cond_false]) (pk (d) _ _ hh _ h7 (dR<|BV f1 u15<|CC<|ZZ) k!) (⟨eO,du,by omega⟩) _ k! (fun x=>me bK g cap list P bb hP cS (i0+1) o! x h7 eO (ay.trans du))
def bJ (list:List bI) (dB:Int) (P:Nat→Int):Int:=(bif (decide (dB<((list.length:Nat):Int))) then 3 else (match (cX P list list.length 0) with | none=>0 | some y8=>y8))
theorem uY {d:Nat} {h:aw} {bK:AV} {g:FuncId} {cap:List AV} (list:List bI) (dB:Int) (P:Nat→Int) (hJ:aM h bK list) (hP:∀j,j<list.length→∀aV hh,Tidy hh→Has h hh→aM hh aV (list.take j)→cU d (.fn g) (aV:: .agg (aG.c (list.g j))::cap) hh= .ret (.int .i64 (P j)) hh) (ct:Tidy h):cU (d+1) (.fn 42) [bK,(Zi dB),(AV.func g [] cap)] h= .ret (Zi (bJ list dB P)) h:=by
 have AO:=hJ.small
 have gL:cc (some (.slice 36)) (some bK)=some (Zn list.length):=hJ.len
 have hI:=fun {al ps} (k:Pk al _ ps)=>(CN 2<|VV gL<|CC<|VV (dw 3 false false .i64 ((list.length:Nat):Int) dB)<|k:Pk _ [] ps)
 rcases Bool.eq_false_or_eq_true (decide (dB<((list.length:Nat):Int))) with f0 | f0
 · have dx:=of_decide_eq_true f0
   have e:bJ list dB P=3:=by simp only[bJ,f0,cond_true,cond_false]
   rw[e]
   exact aE rfl (aZ Tryz.func42 ku rfl (.inr rfl) (pk (d) _ _ h _ h (hI<|BC f0<|ZZ) k!) k!) (Has.refl _) rfl
 · have dx:=of_decide_eq_false f0
   have L8:cc (some (.slice 36)) (some bK)=some (Zn list.length):=hJ.len
   have NR:=me (d:=d) (h:=h) bK g cap list P hJ hP list.length 0 o! (fun k_=>((bK::(Zi dB)::(AV.func g [] cap)::AV.undef::AV.undef::AV.undef::(Zi 0)::AV.undef::AV.undef::AV.undef::bK::(Zn list.length)::(Zi dB)::(AV.bool (decide (dB<((list.length:Nat):Int))))::bK::(Zn list.length)::(Zi 0)::lk 14):List AV).getD k_ AV.undef) h ct (Has.refl _)
   cases dg:cX P list list.length 0 with
   | none=>
     obtain ⟨xB,h5,dX,dC⟩:=aC.n dg NR
     have kK:=dC.y
     have tC:h.nx≤h5.nx:=dC.n
     have gE:Has h h5:=dC.a
     have e:bJ list dB P=0:=by simp only[bJ,f0,dg,cond_true,cond_false]
     rw[e]
     exact aE rfl (aZ Tryz.func42 ku rfl (.inr rfl) (pk (d) _ _ h _ h5 (hI<|BC f0<|VV L8<|CC<|LL dX<|CC<|ZZ) k!) k!) gE rfl
   | some y8=>
     obtain ⟨xB,h5,dX,dC⟩:=aC.r dg NR
     have kK:=dC.y
     have tC:h.nx≤h5.nx:=dC.n
     have gE:Has h h5:=dC.a
     have e:bJ list dB P=y8:=by simp only[bJ,f0,dg,cond_true,cond_false]
     rw[e]
     exact aE rfl (aZ Tryz.func42 ku rfl (.inr rfl) (pk (d) _ _ h _ h5 (hI<|BC f0<|VV L8<|CC<|LL dX<|ZZ) k!) k!) gE rfl
noncomputable def oN:Code:=(Tryz.f98.body).getD .skip
theorem nm:Tryz.f98.body=some oN:=by kernel_rfl
noncomputable def xF:Code:=(bw oN).getD 0 .skip
def eC (P:Nat→Int) (list:List Span):Nat→Nat→Option (Int)
 | 0,_=>none
 | cS+1,i0=>(bif (!decide ((P i0)=0)) then some (P i0) else eC P list cS (i0+1))
theorem oO {d:Nat} {h:aw} (bK:AV) (g:FuncId) (cap:List AV) (list:List Span) (P:Nat→Int) (bb:aM h bK list) (hP:∀j,j<list.length→∀aV hh,Tidy hh→Has h hh→aM hh aV (list.take j)→cU d (.fn g) (aV:: .agg (aG.c (list.g j))::cap) hh= .ret (.int .i64 (P j)) hh):∀(k_ i_:Nat) (_:i_+k_=list.length) (x:Nat→AV) (hh:aw) (aA:Tidy hh) (ay:Has h hh),aC (cU (d)) xF ⟨(bK::(x 1)::(AV.func g [] cap)::rx x 3 11 (bK::(Zn list.length)::(Zn i_)::rx x 17 14 [])),hh,[],.no⟩ (.exit 0) hh (fun y=>(bK::(y 1)::(AV.func g [] cap)::rx y 3 11 (bK::(Zn list.length)::rx y 16 15 []))) (fun r y=>(bK::(y 1)::(AV.func g [] cap)::rx y 3 3 ((Zi r)::rx y 7 7 (bK::(Zn list.length)::rx y 16 15 [])))) (eC P list k_ i_)
 | 0,i0,gq,x,hh,aA,ay=>by
   have cr:=bb.small
   have q1:(decide (((i0:Nat):Int)<((list.length:Nat):Int)))=false:=d!
   exact aC.out rfl (pk (d) _ _ hh _ hh (VV (bO 3 false false .i64 ((i0:Nat):Int) ((list.length:Nat):Int))<|BB q1<|ZZ) k!) (bp.refl aA) k!
 | cS+1,i0,gq,x,hh,aA,ay=>by
   have cr:=bb.small
   have q1:(decide (((i0:Nat):Int)<((list.length:Nat):Int)))=true:=d!
   obtain ⟨p3,q4,cF⟩:=(bb.has ay).elem (i:=i0) o!
   have jL:bR env (some (.slice 70)) (some bK) (some (Zn i0))=some (AV.ptr p3 q4):=cF
   have j9:aY env hh 70 (AV.ptr p3 q4)=some (AV.agg [(Zi ((list.g i0).bl)),(Zi ((list.g i0).aN))]):=(bb.has ay).load o! cF
   obtain ⟨h6,nU,kM,Ce,nV,cE⟩:=kh aA (aH.cells [(Zi 0),(Zi 0)] 70 false)
   have jA:Has hh h6:=cE
   obtain ⟨h7,m8,eO,xA,f_,bD⟩:=qi (t:=70) (n:=2) (i:=hh.nx) (L:=[(Zi ((list.g i0).bl)),(Zi ((list.g i0).aN))]) kM nV k! rfl rfl (by simp only[AV.cells,List.all_cons,List.all_nil,Bool.and_true,Bool.and_self,iE,gd,iF,iG,eP,lF,lG,lH,lI,lJ,iH])
   have du:Has hh h7:=Has.ei jA bD aA o!
   obtain ⟨r8,ae6,ae7⟩:=(bb.has ay).pre (t:=34) k! (i:=i0) o!
   have sl9:dV env 34 bK (none) (some (Zn i0)) (none)=some r8:=ae6
   have U9:=hP i0 o! r8 h7 eO (ay.trans du) (ae7.has du)
   have c12:AV.same 20 (AV.agg [(Zi ((list.g i0).bl)),(Zi ((list.g i0).aN))]) (AV.agg [(Zi ((list.g i0).bl)),(Zi ((list.g i0).aN))])=true:=jy 18 (xh (fun n=>aK n _ _) (xh (fun n=>aK n _ _) TY))
   have dR:=fun {al ps} (k:Pk al _ ps)=>(VV (bO 3 false false .i64 ((i0:Nat):Int) ((list.length:Nat):Int))<|BC q1<|VV jL<|MM j9<|NN nU (fun i=>(Pt i))<|CC<|SS m8<|CN 3<|QQ sl9<|MM (aI 70 0 (AV.agg [(Zi ((list.g i0).bl)),(Zi ((list.g i0).aN))]) f_ k!)<|EE U9<|CC<|HH (aI 70 0 (AV.agg [(Zi ((list.g i0).bl)),(Zi ((list.g i0).aN))]) f_ k!)<|HH c12<|CC<|VV (pa 29 false true .i64 (P i0) 0)<|k:Pk _ [] ps)
   rcases Bool.eq_false_or_eq_true (!decide ((P i0)=0)) with f1 | f1
   · have dQ:=HJ f1
     exact aC.ret (P i0) (by simp only[eC,f1,cond_true,cond_false]) (pk (d) _ _ hh _ h7 (dR<|BB f1<|CN 2<|ZZ) k!) (⟨eO,du,by omega⟩) k!
   · have dQ:=HK f1
     have u14:=dZ 3 false true i0 1 o!
     exact aC.round (by simp only[eC,f1,cond_true,cond_false]) (pk (d) _ _ hh _ h7 (dR<|BV f1 u14<|CC<|ZZ) k!) (⟨eO,du,by omega⟩) _ k! (fun x=>oO bK g cap list P bb hP cS (i0+1) o! x h7 eO (ay.trans du))
def dk (list:List Span) (dB:Int) (P:Nat→Int):Int:=(bif (decide (dB<((list.length:Nat):Int))) then 3 else (match (eC P list list.length 0) with | none=>0 | some y8=>y8))
theorem AX {d:Nat} {h:aw} {bK:AV} {g:FuncId} {cap:List AV} (list:List Span) (dB:Int) (P:Nat→Int) (hJ:aM h bK list) (hP:∀j,j<list.length→∀aV hh,Tidy hh→Has h hh→aM hh aV (list.take j)→cU d (.fn g) (aV:: .agg (aG.c (list.g j))::cap) hh= .ret (.int .i64 (P j)) hh) (ct:Tidy h):cU (d+1) (.fn 98) [bK,(Zi dB),(AV.func g [] cap)] h= .ret (Zi (dk list dB P)) h:=by
 have AO:=hJ.small
 have gL:cc (some (.slice 70)) (some bK)=some (Zn list.length):=hJ.len
 have hI:=fun {al ps} (k:Pk al _ ps)=>(CN 2<|VV gL<|CC<|VV (dw 3 false false .i64 ((list.length:Nat):Int) dB)<|k:Pk _ [] ps)
 rcases Bool.eq_false_or_eq_true (decide (dB<((list.length:Nat):Int))) with f0 | f0
 · have dx:=of_decide_eq_true f0
   have e:dk list dB P=3:=by simp only[dk,f0,cond_true,cond_false]
   rw[e]
   exact aE rfl (aZ Tryz.func98 nm rfl (.inr rfl) (pk (d) _ _ h _ h (hI<|BC f0<|ZZ) k!) k!) (Has.refl _) rfl
 · have dx:=of_decide_eq_false f0
   have L8:cc (some (.slice 70)) (some bK)=some (Zn list.length):=hJ.len
   have NR:=oO (d:=d) (h:=h) bK g cap list P hJ hP list.length 0 o! (fun k_=>((bK::(Zi dB)::(AV.func g [] cap)::AV.undef::AV.undef::AV.undef::(Zi 0)::AV.undef::AV.undef::AV.undef::bK::(Zn list.length)::(Zi dB)::(AV.bool (decide (dB<((list.length:Nat):Int))))::bK::(Zn list.length)::(Zi 0)::lk 14):List AV).getD k_ AV.undef) h ct (Has.refl _)
   cases dg:eC P list list.length 0 with
   | none=>
     obtain ⟨xB,h5,dX,dC⟩:=aC.n dg NR
     have kK:=dC.y
     have tC:h.nx≤h5.nx:=dC.n
     have gE:Has h h5:=dC.a
     have e:dk list dB P=0:=by simp only[dk,f0,dg,cond_true,cond_false]
     rw[e]
     exact aE rfl (aZ Tryz.func98 nm rfl (.inr rfl) (pk (d) _ _ h _ h5 (hI<|BC f0<|VV L8<|CC<|LL dX<|CC<|ZZ) k!) k!) gE rfl
   | some y8=>
     obtain ⟨xB,h5,dX,dC⟩:=aC.r dg NR
     have kK:=dC.y
     have tC:h.nx≤h5.nx:=dC.n
     have gE:Has h h5:=dC.a
     have e:dk list dB P=y8:=by simp only[dk,f0,dg,cond_true,cond_false]
     rw[e]
     exact aE rfl (aZ Tryz.func98 nm rfl (.inr rfl) (pk (d) _ _ h _ h5 (hI<|BC f0<|VV L8<|CC<|LL dX<|ZZ) k!) k!) gE rfl
noncomputable def DU:Code:=(Tryz.f99.body).getD .skip
theorem lE:Tryz.f99.body=some DU:=by kernel_rfl
def cJ (ahead:List Span) (s:Span):Int:=(bif (!(g9 s.bl)) then 1 else (bif (!(g9 s.aN)) then 1 else (bif (decide (s.aN<s.bl)) then 1 else (bif (decide (0<((ahead.length:Nat):Int))) then (bif (decide (s.bl≤((ahead.g (ahead.length - 1)).aN))) then 1 else 0) else 0))))
theorem La {d:Nat} {h:aw} {nh:AV} (ahead:List Span) (s:Span) (jn:aM h nh ahead) (sU:aG.ok h s) (ct:Tidy h):cU (d+3) (.fn 99) [nh,(AV.agg [(Zi s.bl),(Zi s.aN)])] h= .ret (Zi (cJ ahead s)) h:=by
 have Cs:=jn.small
 obtain ⟨h1,dH,cP,kr,bk,bW⟩:=kh ct (aH.cells [(Zi s.bl),(Zi s.aN)] 70 false)
 have bB:Has h h1:=bW
 have k2:=zf (d:=d) s.bl cP
 have dR:=fun {al ps} (k:Pk al _ ps)=>(NN dH (fun i=>(Pt i))<|CN 2<|MM (aI 3 0 (Zi s.bl) bk k!)<|EE k2<|CN 2<|k:Pk _ [] ps)
 rcases Bool.eq_false_or_eq_true (!(g9 s.bl)) with f0 | f0
 · have e:cJ ahead s=1:=by simp only[cJ,f0,cond_true,cond_false]
   rw[e]
   exact aE rfl (aZ Tryz.func99 lE rfl (.inr rfl) (pk (d+2) _ _ h _ h1 (dR<|BB f0<|BC f0<|ZZ) k!) k!) bB rfl
 · have k4:=zf (d:=d) s.aN cP
   have hI:=fun {al ps} (k:Pk al _ ps)=>(dR<|BC f0<|MM (aI 3 1 (Zi s.aN) bk k!)<|EE k4<|CN 2<|k:Pk _ [] ps)
   rcases Bool.eq_false_or_eq_true (!(g9 s.aN)) with f1 | f1
   · have e:cJ ahead s=1:=by simp only[cJ,f0,f1,cond_true,cond_false]
     rw[e]
     exact aE rfl (aZ Tryz.func99 lE rfl (.inr rfl) (pk (d+2) _ _ h _ h1 (hI<|BB f1<|BC f1<|ZZ) k!) k!) bB rfl
   · have mH:=fun {al ps} (k:Pk al _ ps)=>(hI<|BC f1<|MM (aI 3 0 (Zi s.bl) bk k!)<|CC<|MM (aI 3 1 (Zi s.aN) bk k!)<|VV (dw 3 false false .i64 s.bl s.aN)<|CC<|k:Pk _ [] ps)
     rcases Bool.eq_false_or_eq_true (decide (s.aN<s.bl)) with f2 | f2
     · have jZ:=of_decide_eq_true f2
       have e:cJ ahead s=1:=by simp only[cJ,f0,f1,f2,cond_true,cond_false]
       rw[e]
       exact aE rfl (aZ Tryz.func99 lE rfl (.inr rfl) (pk (d+2) _ _ h _ h1 (mH<|BC f2<|ZZ) k!) k!) bB rfl
     · have jZ:=of_decide_eq_false f2
       have ln7:cc (some (.slice 70)) (some nh)=some (Zn ahead.length):=jn.len
       have vc:=fun {al ps} (k:Pk al _ ps)=>(mH<|BC f2<|VV ln7<|VV (dw 3 false true .i64 ((ahead.length:Nat):Int) 0)<|CC<|k:Pk _ [] ps)
       rcases Bool.eq_false_or_eq_true (decide (0<((ahead.length:Nat):Int))) with f3 | f3
       · have lV:=of_decide_eq_true f3
         have ln9:cc (some (.slice 70)) (some nh)=some (Zn ahead.length):=jn.len
         have u10:=ahy 3 false true ahead.length 1 o! o!
         obtain ⟨X7,X8,v8⟩:=jn.elem (i:=(ahead.length - 1)) o!
         have Lb:bR env (some (.slice 70)) (some nh) (some (Zn (ahead.length - 1)))=some (AV.ptr X7 X8):=v8
         have Lc:aY env h1 3 (AV.ptr X7 (X8+1))=some (Zi ((ahead.g (ahead.length - 1)).aN)):=(jn.has bB).part (t:=3) (j:=1) o! v8 k! rfl
         have zI:=fun {al ps} (k:Pk al _ ps)=>(vc<|BC f3<|BM f3 (aI 3 0 (Zi s.bl) bk k!)<|BC f3<|BC f3<|BV f3 ln9<|BV f3 u10<|BV f3 Lb<|BC f3<|BM f3 Lc<|BV f3 (uW 3 false false .i64 s.bl ((ahead.g (ahead.length - 1)).aN))<|VV (pe (decide (s.bl≤((ahead.g (ahead.length - 1)).aN))) false f3)<|CC<|HH (aI 3 0 (Zi s.bl) bk k!)<|HH (show AV.same 20 (Zi s.bl) (Zi s.bl)=true from aK 19 _ _)<|HH Lc<|HH (show AV.same 20 (Zi ((ahead.g (ahead.length - 1)).aN)) (Zi ((ahead.g (ahead.length - 1)).aN))=true from aK 19 _ _)<|k:Pk _ [] ps)
         rcases Bool.eq_false_or_eq_true (decide (s.bl≤((ahead.g (ahead.length - 1)).aN))) with f4 | f4
         · have rE:=of_decide_eq_true f4
           have e:cJ ahead s=1:=by simp only[cJ,f0,f1,f2,f3,f4,cond_true,cond_false]
           rw[e]
           exact aE rfl (aZ Tryz.func99 lE rfl (.inr rfl) (pk (d+2) _ _ h _ h1 (zI<|BC f4<|ZZ) k!) k!) bB rfl
         · have rE:=of_decide_eq_false f4
           have e:cJ ahead s=0:=by simp only[cJ,f0,f1,f2,f3,f4,cond_true,cond_false]
           rw[e]
           exact aE rfl (aZ Tryz.func99 lE rfl (.inr rfl) (pk (d+2) _ _ h _ h1 (zI<|BC f4<|ZZ) k!) k!) bB rfl
       · have lV:=of_decide_eq_false f3
         have e:cJ ahead s=0:=by simp only[cJ,f0,f1,f2,f3,cond_true,cond_false]
         rw[e]
         exact aE rfl (aZ Tryz.func99 lE rfl (.inr rfl) (pk (d+2) _ _ h _ h1 (vc<|BB f3<|BB f3<|BB f3<|BB f3<|BB f3<|BB f3<|BB f3<|BB f3<|BB f3<|BV f3 (sS false f3)<|CC<|FF<|CC<|ZZ) k!) k!) bB rfl
noncomputable def uZ:Code:=(Tryz.f97.body).getD .skip
theorem zh:Tryz.f97.body=some uZ:=by kernel_rfl
def gz (other:bI) (r:bI):Bool:=(decide (other.name=r.name))
theorem zi {d:Nat} {h:aw} (other:bI) (r:bI) (rB:Nat) (Ed:aG.ok h other) (h_r:aG.ok h r) (g_r:h.get rB=some (.cells (aG.c r) 36 false)) (ct:Tidy h):cU (d+1) (.fn 97) [(AV.agg [(AV.str other.name),(Zi other.aB),other.dp]),(Pt rB)] h= .ret (AV.bool (gz other r)) h:=by
 have ads:=Ed.2.small
 have abT:=h_r.2.small
 obtain ⟨h1,dH,cP,kr,bk,bW⟩:=kh ct (aH.cells [(AV.str other.name),(Zi other.aB),other.dp] 36 false)
 have bB:Has h h1:=bW
 have e:gz other r=(decide (other.name=r.name)):=by simp only[gz,cond_true,cond_false]
 rw[e]
 exact aE rfl (aZ Tryz.func97 zh rfl (.inr rfl) (pk (d) _ _ h _ h1 (NN dH (fun i=>(Pt i))<|CN 2<|MM (aI 9 0 (AV.str other.name) bk k!)<|CC<|MM (aI 9 0 (AV.str r.name) (bW _ _ g_r) k!)<|VV (TX 9 false false other.name r.name)<|CC<|ZZ) k!) k!) bB rfl
noncomputable def oP:Code:=(Tryz.f138.body).getD .skip
theorem qV:Tryz.f138.body=some oP:=by kernel_rfl
noncomputable def xG:Code:=(bw oP).getD 0 .skip
def dJ (s:List bI) (P:bI→Bool):Nat→Nat→Option (Int)
 | 0,_=>none
 | cS+1,i0=>(bif (P (s.g i0)) then some ((i0:Nat):Int) else dJ s P cS (i0+1))
theorem oQ {d:Nat} {h:aw} (sV:AV) (g:FuncId) (cap:List AV) (s:List bI) (P:bI→Bool) (bb:aM h sV s) (hP:∀y∈s,∀hh,Tidy hh→Has h hh→cU d (.fn g) (.agg (aG.c y)::cap) hh= .ret (.bool (P y)) hh):∀(k_ i_:Nat) (_:i_+k_=s.length) (x:Nat→AV) (hh:aw) (aA:Tidy hh) (ay:Has h hh),aC (cU (d)) xG ⟨(sV::(AV.func g [] cap)::rx x 2 5 ((Zn s.length)::(Zn i_)::rx x 9 10 [])),hh,[],.no⟩ (.exit 0) hh (fun y=>(sV::(AV.func g [] cap)::rx y 2 5 ((Zn s.length)::rx y 8 11 []))) (fun r y=>(sV::(AV.func g [] cap)::(y 2)::(y 3)::(Zi r)::(y 5)::(y 6)::(Zn s.length)::rx y 8 11 [])) (dJ s P k_ i_)
 | 0,i0,gq,x,hh,aA,ay=>by
   have cr:=bb.small
   have q1:(decide (((i0:Nat):Int)<((s.length:Nat):Int)))=false:=d!
   exact aC.out rfl (pk (d) _ _ hh _ hh (VV (bO 3 false false .i64 ((i0:Nat):Int) ((s.length:Nat):Int))<|BB q1<|ZZ) k!) (bp.refl aA) k!
 | cS+1,i0,gq,x,hh,aA,ay=>by
   have cr:=bb.small
   have q1:(decide (((i0:Nat):Int)<((s.length:Nat):Int)))=true:=d!
   obtain ⟨p3,q4,cF⟩:=(bb.has ay).elem (i:=i0) o!
   have jL:bR env (some (.slice 36)) (some sV) (some (Zn i0))=some (AV.ptr p3 q4):=cF
   have j9:aY env hh 36 (AV.ptr p3 q4)=some (AV.agg [(AV.str ((s.g i0).name)),(Zi ((s.g i0).aB)),((s.g i0).dp)]):=(bb.has ay).load o! cF
   have k6:=hP (s.g i0) (R4 o!) hh aA ay
   have dR:=fun {al ps} (k:Pk al _ ps)=>(VV (bO 3 false false .i64 ((i0:Nat):Int) ((s.length:Nat):Int))<|BB q1<|CN 5<|VV jL<|MM j9<|EE k6<|k:Pk _ [] ps)
   rcases Bool.eq_false_or_eq_true (P (s.g i0)) with f1 | f1
   · exact aC.ret ((i0:Nat):Int) (by simp only[dJ,f1,cond_true,cond_false]) (pk (d) _ _ hh _ hh (dR<|BB f1<|CN 2<|ZZ) k!) (bp.refl aA) k!
   · have u8:=dZ 3 false true i0 1 o!
     exact aC.round (by simp only[dJ,f1,cond_true,cond_false]) (pk (d) _ _ hh _ hh (dR<|BV f1 u8<|CC<|ZZ) k!) (bp.refl aA) _ k! (fun x=>oQ sV g cap s P bb hP cS (i0+1) o! x hh aA ay)
def fk (s:List bI) (P:bI→Bool):Int:=(match (dJ s P s.length 0) with | none=>(-1) | some xC=>xC)
theorem AY {d:Nat} {h:aw} {sV:AV} {g:FuncId} {cap:List AV} (s:List bI) (P:bI→Bool) (sU:aM h sV s) (hP:∀y∈s,∀hh,Tidy hh→Has h hh→cU d (.fn g) (.agg (aG.c y)::cap) hh= .ret (.bool (P y)) hh) (ct:Tidy h):cU (d+1) (.fn 138) [sV,(AV.func g [] cap)] h= .ret (Zi (fk s P)) h:=by
 have AQ:=sU.small
 have gL:cc (some (.slice 36)) (some sV)=some (Zn s.length):=sU.len
 have Di:=oQ (d:=d) (h:=h) sV g cap s P sU hP s.length 0 o! (fun k_=>((sV::(AV.func g [] cap)::AV.undef::AV.undef::(Zi 0)::AV.undef::sV::(Zn s.length)::(Zi 0)::lk 10):List AV).getD k_ AV.undef) h ct (Has.refl _)
 cases dz:dJ s P s.length 0 with
 | none=>
   obtain ⟨Cb,h3,dy,dt⟩:=aC.n dz Di
   have l9:=dt.y
   have tz:h.nx≤h3.nx:=dt.n
   have iy:Has h h3:=dt.a
   have e:fk s P=(-1):=by simp only[fk,dz,cond_true,cond_false]
   rw[e]
   exact aE rfl (aZ Tryz.func138 qV rfl (.inr rfl) (pk (d) _ _ h _ h3 (CN 2<|VV gL<|CC<|LL dy<|CC<|ZZ) k!) k!) iy rfl
 | some xC=>
   obtain ⟨Cb,h3,dy,dt⟩:=aC.r dz Di
   have l9:=dt.y
   have tz:h.nx≤h3.nx:=dt.n
   have iy:Has h h3:=dt.a
   have e:fk s P=xC:=by simp only[fk,dz,cond_true,cond_false]
   rw[e]
   exact aE rfl (aZ Tryz.func138 qV rfl (.inr rfl) (pk (d) _ _ h _ h3 (CN 2<|VV gL<|CC<|LL dy<|ZZ) k!) k!) iy rfl
noncomputable def sC:Code:=(Tryz.f96.body).getD .skip
theorem v9:Tryz.f96.body=some sC:=by kernel_rfl
def eD (s:List bI) (P:bI→Bool):Bool:=(decide (0≤(fk s P)))
theorem wa {d:Nat} {h:aw} {sV:AV} {g:FuncId} {cap:List AV} (s:List bI) (P:bI→Bool) (sU:aM h sV s) (hP:∀y∈s,∀hh,Tidy hh→Has h hh→cU d (.fn g) (.agg (aG.c y)::cap) hh= .ret (.bool (P y)) hh) (ct:Tidy h):cU (d+2) (.fn 96) [sV,(AV.func g [] cap)] h= .ret (AV.bool (eD s P)) h:=by
 have AQ:=sU.small
 have k1:=AY (d:=d) s P sU hP ct
 have e:eD s P=(decide (0≤(fk s P))):=by simp only[eD,cond_true,cond_false]
 rw[e]
 exact aE rfl (aZ Tryz.func96 v9 rfl (.inr rfl) (pk (d+1) _ _ h _ h (CN 3<|EE k1<|VV (pc 3 false true .i64 (fk s P) 0)<|CC<|ZZ) k!) k!) (Has.refl _) rfl
noncomputable def wb:Code:=(Tryz.f43.body).getD .skip
theorem kF:Tryz.f43.body=some wb:=by kernel_rfl
def bA (ahead:List bI) (r:bI):Int:=(bif (!(g8 r.name)) then 5 else (bif (eD ahead (fun y=>gz y r)) then 6 else (bif (!(iY r.aB 1000)) then 1 else (dk r.off 16 (fun jx=>cJ (List.take jx r.off) (List.g r.off jx))))))
theorem AZ {d:Nat} {h:aw} {nh:AV} (ahead:List bI) (r:bI) (jn:aM h nh ahead) (h_r:aG.ok h r) (ct:Tidy h):cU (d+6) (.fn 43) [nh,(AV.agg [(AV.str r.name),(Zi r.aB),r.dp])] h= .ret (Zi (bA ahead r)) h:=by
 have Cs:=jn.small
 have abT:=h_r.2.small
 obtain ⟨h1,dH,cP,kr,bk,bW⟩:=kh ct (aH.cells [(AV.str r.name),(Zi r.aB),r.dp] 36 false)
 have bB:Has h h1:=bW
 have k2:=Gs (d:=d+4) r.name h_r.1 cP
 have dR:=fun {al ps} (k:Pk al _ ps)=>(NN dH (fun i=>(Pt i))<|CN 2<|MM (aI 9 0 (AV.str r.name) bk k!)<|EE k2<|CN 2<|k:Pk _ [] ps)
 rcases Bool.eq_false_or_eq_true (!(g8 r.name)) with f0 | f0
 · have e:bA ahead r=5:=by simp only[bA,f0,cond_true,cond_false]
   rw[e]
   exact aE rfl (aZ Tryz.func43 kF rfl (.inr rfl) (pk (d+5) _ _ h _ h1 (dR<|BC f0<|ZZ) k!) k!) bB rfl
 · have k4:=wa (d:=d+3) ahead (fun y=>gz y r) (jn.has bB) (fun y hy hh yy aa=>zi (d:=d+2) y r h.nx (aG.mono aa ((jn.has bB).oks y hy)) (aG.mono aa (aG.mono bB h_r)) (aa _ _ bk) yy) cP
   rcases Bool.eq_false_or_eq_true (eD ahead (fun y=>gz y r)) with f1 | f1
   · have e:bA ahead r=6:=by simp only[bA,f0,f1,cond_true,cond_false]
     rw[e]
     exact aE rfl (aZ Tryz.func43 kF rfl (.inr rfl) (pk (d+5) _ _ h _ h1 (dR<|BB f0<|CN 2<|EE k4<|CC<|BC f1<|ZZ) k!) k!) bB rfl
   · have k6:=Gu (d:=d+4) r.aB 1000 cP
     have hI:=fun {al ps} (k:Pk al _ ps)=>(dR<|BB f0<|CN 2<|EE k4<|CC<|BC f1<|MM (aI 3 1 (Zi r.aB) bk k!)<|EE k6<|CN 2<|k:Pk _ [] ps)
     rcases Bool.eq_false_or_eq_true (!(iY r.aB 1000)) with f2 | f2
     · have e:bA ahead r=1:=by simp only[bA,f0,f1,f2,cond_true,cond_false]
       rw[e]
       exact aE rfl (aZ Tryz.func43 kF rfl (.inr rfl) (pk (d+5) _ _ h _ h1 (hI<|BC f2<|ZZ) k!) k!) bB rfl
     · have k8:=AX (d:=d+4) r.off 16 (fun jx=>cJ (List.take jx r.off) (List.g r.off jx)) (h_r.2.has bB) (fun jx hj aV hh yy aa fa=>La (d:=d+1) (List.take jx r.off) (List.g r.off jx) fa (aG.mono aa ((h_r.2.has bB).ok hj)) yy) cP
       have e:bA ahead r=(dk r.off 16 (fun jx=>cJ (List.take jx r.off) (List.g r.off jx))):=by simp only[bA,f0,f1,f2,cond_true,cond_false]
       rw[e]
       exact aE rfl (aZ Tryz.func43 kF rfl (.inr rfl) (pk (d+5) _ _ h _ h1 (hI<|BC f2<|MM (aI 34 2 r.dp bk k!)<|EE k8<|CC<|ZZ) k!) k!) bB rfl
def zJ (P:Nat→Int):Nat→Nat→Option Int
 | 0,_=>none
 | k+1,i=>bif !decide (P i=0) then some (P i) else zJ P k (i+1)
def L_ (n:Nat) (dB:Int) (P:Nat→Int):Int:=bif decide (dB<((n:Nat):Int)) then 3 else match zJ P n 0 with | none=>0 | some r=>r
theorem N1 {P:Nat→Int}:∀{k i:Nat},zJ P k i=none→∀j,i≤j→j<i+k→P j=0
 | 0,i,_,j,p,q=>by omega
 | k+1,i,h,j,p,q=>by
   rw[zJ] at h
   by_cases e:P i=0
   · rw[decide_eq_true e] at h
     by_cases z:j=i
     · rw[z];exact e
     · exact N1 (k:=k) (i:=i+1) h j o! o!
   · rw[decide_eq_false e] at h;cases h
theorem wc {P:Nat→Int}:∀{k i:Nat} {r:Int},zJ P k i=some r→r≠0
 | 0,i,r,h=>by cases h
 | k+1,i,r,h=>by
   rw[zJ] at h
   by_cases e:P i=0
   · rw[decide_eq_true e] at h;exact wc (k:=k) h
   · rw[decide_eq_false e] at h;cases h;exact e
theorem oR {n:Nat} {dB:Int} {P:Nat→Int} (h:L_ n dB P=0):(n:Int)≤dB∧∀j,j<n→P j=0:=by
 unfold L_ at h
 by_cases a:dB<((n:Nat):Int)
 · rw[decide_eq_true a] at h;cases h
 · rw[decide_eq_false a,cond_false] at h
   cases e:zJ P n 0 with
   | none=>exact ⟨by omega,fun j hj=>N1 e j o! o!⟩
   | some r=>rw[e] at h;exact absurd h (wc e)
theorem X9 {P:Nat→Int} {l:List Int}:∀{k i:Nat},eV P l k i=zJ P k i
 | 0,i=>rfl
 | k+1,i=>by rw[eV,zJ,X9]
theorem X_ {P:Nat→Int} {l:List jH}:∀{k i:Nat},eW P l k i=zJ P k i
 | 0,i=>rfl
 | k+1,i=>by rw[eW,zJ,X_]
theorem Sy {P:Nat→Int} {l:List Task}:∀{k i:Nat},eB P l k i=zJ P k i
 | 0,i=>rfl
 | k+1,i=>by rw[eB,zJ,Sy]
theorem X' {P:Nat→Int} {l:List bI}:∀{k i:Nat},cX P l k i=zJ P k i
 | 0,i=>rfl
 | k+1,i=>by rw[cX,zJ,X']
theorem Sz {P:Nat→Int} {l:List Span}:∀{k i:Nat},eC P l k i=zJ P k i
 | 0,i=>rfl
 | k+1,i=>by rw[eC,zJ,Sz]
theorem Ya (l:List Int) (m:Int) (P:Nat→Int):cI l m P=L_ l.length m P:=by rw[cI,L_,X9]<;>rfl
theorem Yb (l:List jH) (m:Int) (P:Nat→Int):dN l m P=L_ l.length m P:=by rw[dN,L_,X_]<;>rfl
theorem A0 (l:List Task) (m:Int) (P:Nat→Int):bX l m P=L_ l.length m P:=by rw[bX,L_,Sy]<;>rfl
theorem Yc (l:List bI) (m:Int) (P:Nat→Int):bJ l m P=L_ l.length m P:=by rw[bJ,L_,X']<;>rfl
theorem SA (l:List Span) (m:Int) (P:Nat→Int):dk l m P=L_ l.length m P:=by rw[dk,L_,Sz]<;>rfl
theorem A1 {j:cG} {a:List Task} {t:Task} (h:dh j a t=0):∀q,q<t.ax.length→0≤t.ax.g q∧t.ax.g q<(j.ab.length:Int):=by
 intro q hq
 unfold dh at h
 cases n1:g8 t.name with
 | false=>rw[n1] at h;cases h
 | true=>
 cases n2:fR a (fun y=>iV y t) with
 | true=>rw[n1,n2] at h;cases h
 | false=>
 cases n3:g9 t.takes with
 | false=>rw[n1,n2,n3] at h;cases h
 | true=>
 rw[n1,n2,n3] at h
 by_cases e:cI t.ax ((t.ax.length:Nat):Int) (fun jx=>dj (List.take jx t.ax) (List.g t.ax jx) j)=0
 · rw[Ya] at e
   have:=(oR e).2 q hq
   unfold dj gM at this
   cases n4:iI (t.ax.g q) ((j.ab.length:Nat):Int) with
   | false=>rw[show List.g t.ax q=t.ax.g q from rfl,n4] at this;cases this
   | true=>exact su n4
 · rw[decide_eq_false e] at h;exact absurd h e
theorem N2 {j:cG} (h:bX j.ab 64 (fun jx=>fS (List.take jx j.ab) (List.g j.ab jx) j)=0):j.ab.length≤100000:=by
 rw[A0] at h;have:=(oR h).1;omega
theorem zl {j:cG} (h:bX j.ab 64 (fun jx=>fS (List.take jx j.ab) (List.g j.ab jx) j)=0):∀i,i<j.ab.length→∀q,q<(j.ab.g i).ax.length→0≤(j.ab.g i).ax.g q∧(j.ab.g i).ax.g q<(j.ab.length:Int):=by
 rw[A0] at h
 exact fun i hi=>A1 ((oR h).2 i hi)
def anyI (P:Nat→Bool):Nat→Nat→Bool
 | 0,_=>false
 | k+1,i=>P i||anyI P k (i+1)
theorem qq {P Q:Nat→Bool}:∀{k i:Nat},(∀n,i≤n→n<i+k→P n=Q n)→anyI P k i=anyI Q k i
 | 0,i,h=>rfl
 | k+1,i,h=>by rw[anyI,anyI,h i (Nat.le_refl _) o!,qq (k:=k) (i:=i+1) fun n p q=>h n o! o!]
theorem zm {P:Nat→Bool}:∀{k i:Nat},anyI P k i=false→∀n,i≤n→n<i+k→P n=false
 | 0,i,_,n,p,q=>by omega
 | k+1,i,h,n,p,q=>by
   rw[anyI,Bool.or_eq_false_iff] at h
   by_cases e:n=i
   · rw[e];exact h.1
   · exact zm h.2 n o! o!
theorem Yd {s:List bI} {P:bI→Bool}:∀k i,(dJ s P k i=none∧anyI (fun n=>P (s.g n)) k i=false)∨∃n:Nat,dJ s P k i=some (n:Int)∧anyI (fun n=>P (s.g n)) k i=true
 | 0,i=> .inl ⟨rfl,rfl⟩
 | k+1,i=>by
   rw[dJ,anyI]
   cases h:P (s.g i) with
   | true=>exact .inr ⟨i,rfl,rfl⟩
   | false=>exact Yd k (i+1)
theorem afh (s:List bI) (P:bI→Bool):eD s P=anyI (fun n=>P (s.g n)) s.length 0:=by
 rw[eD,fk]
 rcases Yd (s:=s) (P:=P) s.length 0 with ⟨e,f⟩ | ⟨n,e,f⟩
 · rw[e,f];rfl
 · rw[e,f];exact decide_eq_true (Int.natCast_nonneg n)
theorem SB {s:List Task} {P:Task→Bool}:∀k i,(fQ s P k i=none∧anyI (fun n=>P (s.g n)) k i=false)∨∃n:Nat,fQ s P k i=some (n:Int)∧anyI (fun n=>P (s.g n)) k i=true
 | 0,i=> .inl ⟨rfl,rfl⟩
 | k+1,i=>by
   rw[fQ,anyI]
   cases h:P (s.g i) with
   | true=>exact .inr ⟨i,rfl,rfl⟩
   | false=>exact SB k (i+1)
theorem abU (s:List Task) (P:Task→Bool):fR s P=anyI (fun n=>P (s.g n)) s.length 0:=by
 rw[fR,iX]
 rcases SB (s:=s) (P:=P) s.length 0 with ⟨e,f⟩ | ⟨n,e,f⟩
 · rw[e,f];rfl
 · rw[e,f];exact decide_eq_true (Int.natCast_nonneg n)
theorem Ye {s:List jH} {P:jH→Bool}:∀k i,(gF s P k i=none∧anyI (fun n=>P (s.g n)) k i=false)∨∃n:Nat,gF s P k i=some (n:Int)∧anyI (fun n=>P (s.g n)) k i=true
 | 0,i=> .inl ⟨rfl,rfl⟩
 | k+1,i=>by
   rw[gF,anyI]
   cases h:P (s.g i) with
   | true=>exact .inr ⟨i,rfl,rfl⟩
   | false=>exact Ye k (i+1)
theorem Yf (s:List jH) (P:jH→Bool):hU s P=anyI (fun n=>P (s.g n)) s.length 0:=by
 rw[hU,j0]
 rcases Ye (s:=s) (P:=P) s.length 0 with ⟨e,f⟩ | ⟨n,e,f⟩
 · rw[e,f];rfl
 · rw[e,f];exact decide_eq_true (Int.natCast_nonneg n)
theorem Yg {s:List Int} {v:Int}:∀k i,(iW s v k i=none∧anyI (fun n=>decide (v=s.g n)) k i=false)∨∃n:Nat,iW s v k i=some (n:Int)∧anyI (fun n=>decide (v=s.g n)) k i=true
 | 0,i=> .inl ⟨rfl,rfl⟩
 | k+1,i=>by
   rw[iW,anyI]
   cases h:decide (v=s.g i) with
   | true=>exact .inr ⟨i,rfl,rfl⟩
   | false=>exact Yg k (i+1)
theorem afi (s:List Int) (v:Int):kW s v=anyI (fun n=>decide (v=s.g n)) s.length 0:=by
 rw[kW,nf]
 rcases Yg (s:=s) (v:=v) s.length 0 with ⟨e,f⟩ | ⟨n,e,f⟩
 · rw[e,f];rfl
 · rw[e,f];exact decide_eq_true (Int.natCast_nonneg n)
theorem qt {α:Type} {l:List α} {n:Nat} (h:n≤l.length):(l.take n).length=n:=by rw[List.length_take];omega
theorem zn {α:Type} [Inhabited α] {l:List α} {n i:Nat} (h:i<n):(l.take n).g i=l.g i:=by
 rw[List.g,List.g,List.getD_eq_getElem?_getD,List.getD_eq_getElem?_getD,List.getElem?_take_of_lt h]
theorem we {x:Int} (h:g9 x=true):0≤x∧x≤100000:=by
 unfold g9 iY at h
 by_cases z:0≤x
 · rw[decide_eq_true z,cond_true] at h;exact ⟨z,of_decide_eq_true h⟩
 · rw[decide_eq_false z] at h;cases h
structure cu (j:cG):Prop where
 nt:j.ab.length≤64
 nr:j.af.length≤16
 nb:∀i,i<j.ab.length→∀q,q<(j.ab.g i).ax.length→0≤(j.ab.g i).ax.g q∧(j.ab.g i).ax.g q<(j.ab.length:Int)
 ro:∀r,r<j.af.length→(j.af.g r).off.length≤16∧∀q,q<(j.af.g r).off.length→0≤((j.af.g r).off.g q).bl∧((j.af.g r).off.g q).aN≤100000
 rs:∀r,r<j.af.length→(∀q,q<(j.af.g r).off.length→((j.af.g r).off.g q).bl≤((j.af.g r).off.g q).aN)∧(∀q,0<q→q<(j.af.g r).off.length→((j.af.g r).off.g (q - 1)).aN<((j.af.g r).off.g q).bl)∧0≤(j.af.g r).aB∧(j.af.g r).aB≤1000
 ur:∀i,i<j.ab.length→∀q,q<(j.ab.g i).au.length→0≤((j.ab.g i).au.g q).ah∧((j.ab.g i).au.g q).ah<(j.af.length:Int)
 um:∀i,i<j.ab.length→∀q,q<(j.ab.g i).au.length→1≤((j.ab.g i).au.g q).aB∧((j.ab.g i).au.g q).aB≤(j.af.g (Int.toNat ((j.ab.g i).au.g q).ah)).aB
 ud:∀i,i<j.ab.length→∀a,a<(j.ab.g i).au.length→∀b,a<b→b<(j.ab.g i).au.length→((j.ab.g i).au.g a).ah≠((j.ab.g i).au.g b).ah
 tk:∀i,i<j.ab.length→0≤(j.ab.g i).takes∧(j.ab.g i).takes≤100000
 io:¬(eX j.ab).length<j.ab.length
theorem H9 {j:cG} {b:List jH} {u:jH} (h:dI j b u=0):(0≤u.ah∧u.ah<(j.af.length:Int))∧(∀n,n<b.length→(b.g n).ah≠u.ah)∧1≤u.aB∧u.aB≤(j.af.g (Int.toNat u.ah)).aB:=by
 unfold dI at h
 cases a:iI u.ah ((j.af.length:Nat):Int) with
 | false=>rw[a] at h;cases h
 | true=>
 cases c:hU b (fun y=>jO y u) with
 | true=>rw[a,c] at h;cases h
 | false=>
 rw[a,c] at h
 by_cases d1:u.aB<1
 · rw[decide_eq_true d1] at h;cases h
 · rw[decide_eq_false d1] at h
   by_cases d2:1000<u.aB
   · rw[decide_eq_true d2] at h;cases h
   · rw[decide_eq_false d2] at h
     by_cases d3:(j.af.g (Int.toNat u.ah)).aB<u.aB
     · rw[decide_eq_true d3] at h;cases h
     · rw[Yf] at c
       refine ⟨su a,fun n hn e=>?_,by omega,by omega⟩
       have t:=zm c n (Nat.zero_le _) o!
       unfold jO at t
       rw[decide_eq_true e] at t;cases t
theorem H_ {b:List Span} {s:Span} (h:cJ b s=0):0≤s.bl∧s.aN≤100000∧s.bl≤s.aN∧(0<b.length→(b.g (b.length - 1)).aN<s.bl):=by
 unfold cJ at h
 cases a:g9 s.bl with
 | false=>rw[a] at h;cases h
 | true=>
 cases c:g9 s.aN with
 | false=>rw[a,c] at h;cases h
 | true=>
 rw[a,c] at h
 have x:=we a
 have y:=we c
 by_cases d1:s.aN<s.bl
 · rw[decide_eq_true d1] at h;cases h
 · rw[decide_eq_false d1] at h
   refine ⟨x.1,y.2,by omega,fun hb=>?_⟩
   rw[decide_eq_true (show 0<((b.length:Nat):Int) by omega)] at h
   by_cases d2:s.bl≤(b.g (b.length - 1)).aN
   · rw[decide_eq_true d2] at h;cases h
   · omega
theorem zo {b:List bI} {r:bI} (h:bA b r=0):(0≤r.aB∧r.aB≤1000)∧r.off.length≤16∧∀q,q<r.off.length→cJ (r.off.take q) (r.off.g q)=0:=by
 unfold bA at h
 cases a:g8 r.name with
 | false=>rw[a] at h;cases h
 | true=>
 cases c:eD b (fun y=>gz y r) with
 | true=>rw[a,c] at h;cases h
 | false=>
 cases e:iY r.aB 1000 with
 | false=>rw[a,c,e] at h;cases h
 | true=>
 rw[a,c,e] at h
 have h:dk r.off 16 (fun jx=>cJ (List.take jx r.off) (List.g r.off jx))=0:=h
 rw[SA] at h
 have z:=oR h
 refine ⟨?_,by omega,fun q hq=>z.2 q hq⟩
 unfold iY at e
 by_cases z:0≤r.aB
 · rw[decide_eq_true z,cond_true] at e;exact ⟨z,of_decide_eq_true e⟩
 · rw[decide_eq_false z] at e;cases e
theorem GD {j:cG} {b:List Task} {t:Task} (h:dh j b t=0):(0≤t.takes∧t.takes≤100000)∧∀q,q<t.au.length→dI j (t.au.take q) (t.au.g q)=0:=by
 unfold dh at h
 cases n1:g8 t.name with
 | false=>rw[n1] at h;cases h
 | true=>
 cases n2:fR b (fun y=>iV y t) with
 | true=>rw[n1,n2] at h;cases h
 | false=>
 cases n3:g9 t.takes with
 | false=>rw[n1,n2,n3] at h;cases h
 | true=>
 rw[n1,n2,n3] at h
 by_cases e:cI t.ax ((t.ax.length:Nat):Int) (fun jx=>dj (List.take jx t.ax) (List.g t.ax jx) j)=0
 · rw[decide_eq_true e] at h
   have h:dN t.au ((t.au.length:Nat):Int) (fun jx=>gG (List.take jx t.au) (List.g t.au jx) j)=0:=h
   rw[Yb] at h
   exact ⟨we n3,fun q hq=>(oR h).2 q hq⟩
 · rw[decide_eq_false e] at h;exact absurd h e
theorem Qs {j:cG} (h:(bif (!decide ((bJ j.af 16 (fun jx=>bA (List.take jx j.af) (List.g j.af jx)))=0)) then (bJ j.af 16 (fun jx=>bA (List.take jx j.af) (List.g j.af jx))) else (bif (!decide ((bX j.ab 64 (fun jx=>fS (List.take jx j.ab) (List.g j.ab jx) j))=0)) then (bX j.ab 64 (fun jx=>fS (List.take jx j.ab) (List.g j.ab jx) j)) else (bif (decide ((((eX j.ab).length:Nat):Int)<((j.ab.length:Nat):Int))) then 11 else 0)))=0):cu j:=by
 by_cases a:bJ j.af 16 (fun jx=>bA (List.take jx j.af) (List.g j.af jx))=0
 · by_cases b:bX j.ab 64 (fun jx=>fS (List.take jx j.ab) (List.g j.ab jx) j)=0
   · by_cases c:(((eX j.ab).length:Nat):Int)<((j.ab.length:Nat):Int)
     · rw[decide_eq_true a,decide_eq_true b,decide_eq_true c] at h;cases h
     · have nb:=zl b
       rw[Yc] at a
       rw[A0] at b
       have za:=oR a
       have zb:=oR b
       have rr:=fun r (hr:r<j.af.length)=>zo (za.2 r hr)
       have tt:=fun i (hi:i<j.ab.length)=>GD (zb.2 i hi)
       have oo:=fun r (hr:r<j.af.length) q (hq:q<(j.af.g r).off.length)=>H_ ((rr r hr).2.2 q hq)
       have uu:=fun i (hi:i<j.ab.length) q (hq:q<(j.ab.g i).au.length)=>H9 ((tt i hi).2 q hq)
       exact {
        nt:=by omega
        nr:=by omega
        nb:=nb
        ro:=fun r hr=>⟨(rr r hr).2.1,fun q hq=>⟨(oo r hr q hq).1,(oo r hr q hq).2.1⟩⟩
        rs:=fun r hr=>⟨fun q hq=>(oo r hr q hq).2.2.1,fun q h0 hq=>by
         have:=(oo r hr q hq).2.2.2
         rw[qt (Nat.le_of_lt hq),zn o!] at this
         exact this h0,(rr r hr).1⟩
        ur:=fun i hi q hq=>(uu i hi q hq).1
        um:=fun i hi q hq=>(uu i hi q hq).2.2
        ud:=fun i hi a ha b hab hb=>by
         have:=(uu i hi b hb).2.1 a (by rw[qt (Nat.le_of_lt hb)];exact hab)
         rw[zn hab] at this;exact this
        tk:=fun i hi=>(tt i hi).1
        io:=by omega}
   · rw[decide_eq_true a,decide_eq_false b] at h;exact absurd h b
 · rw[decide_eq_false a] at h;exact absurd h a
noncomputable def A2:Code:=(Tryz.f57.body).getD .skip
theorem Jg:Tryz.f57.body=some A2:=by kernel_rfl
noncomputable def N3:Code:=(bw A2).getD 0 .skip
def kY (x_:Task) (aj:List Bool):Nat→Nat→Option (Bool)
 | 0,_=>none
 | cS+1,i0=>(bif (!(aj.g (x_.ax.g i0).toNat)) then some false else kY x_ aj cS (i0+1))
theorem A3 {d:Nat} {h:aw} (aU:AV) (x_:Task) (aj:List Bool) (a_:Nat) (bb:l7 h 4 aU aj) (cf:x_.name.length<2^60) (dc:bS h .i64 3 x_.aO x_.ax) (iU:aM h x_.aS x_.au) (fW:aG.ok h x_) (fq:∀q,q<x_.ax.length→0≤x_.ax.g q∧x_.ax.g q<(aj.length:Int)):∀(k_ i_:Nat) (_:i_+k_=x_.ax.length) (x:Nat→AV) (hh:aw) (aA:Tidy hh) (ay:Has h hh) (bh:hh.get a_=some (aH.cells [(AV.str x_.name),(Zi x_.takes),x_.aO,x_.aS] 39 false)),aC (cU (d)) N3 ⟨((x 0)::aU::(Pt a_)::(x 3)::(x 4)::(Zn i_)::rx x 6 16 []),hh,[],.no⟩ (.exit 0) hh (fun y=>((y 0)::aU::(Pt a_)::rx y 3 19 [])) (fun r y=>((y 0)::aU::(Pt a_)::(y 3)::(AV.bool r)::rx y 5 17 [])) (kY x_ aj k_ i_)
 | 0,i0,gq,x,hh,aA,ay,bh=>by
   have cr:=bb.small
   have jD:=dc.small
   have tW:=iU.small
   have ji:=aA _ _ bh
   have gL:cc (some (.slice 3)) (some x_.aO)=some (Zn x_.ax.length):=(dc.has ay).len
   have q2:(decide (((i0:Nat):Int)<((x_.ax.length:Nat):Int)))=false:=d!
   exact aC.out rfl (pk (d) _ _ hh _ hh (CN 2<|MM (aI 26 2 x_.aO bh k!)<|VV gL<|VV (bO 3 false false .i64 ((i0:Nat):Int) ((x_.ax.length:Nat):Int))<|BB q2<|ZZ) k!) (bp.refl aA) k!
 | cS+1,i0,gq,x,hh,aA,ay,bh=>by
   have cr:=bb.small
   have jD:=dc.small
   have tW:=iU.small
   have ji:=aA _ _ bh
   obtain ⟨nd1,nd2⟩:=fq i0 o!
   have gL:cc (some (.slice 3)) (some x_.aO)=some (Zn x_.ax.length):=(dc.has ay).len
   have q2:(decide (((i0:Nat):Int)<((x_.ax.length:Nat):Int)))=true:=d!
   obtain ⟨p4,q5,jE,_⟩:=(dc.has ay).elem (i:=i0) o!
   have vP:bR env (some (.slice 3)) (some x_.aO) (some (Zn i0))=some (AV.ptr p4 q5):=jE
   have rC:aY env hh 3 (AV.ptr p4 q5)=some (Zi (x_.ax.g i0)):=(dc.has ay).load o! jE
   obtain ⟨p8,q9,sx,_⟩:=(bb.has ay).elem (i:=(x_.ax.g i0).toNat) o!
   have Qb:bR env (some (.slice 4)) (some aU) (some (Zi (x_.ax.g i0)))=some (AV.ptr p8 q9):=by rw[show ((x_.ax.g i0):Int)=(((x_.ax.g i0).toNat:Nat):Int) by omega];exact sx
   have vY:aY env hh 4 (AV.ptr p8 q9)=some (AV.bool (aj.g (x_.ax.g i0).toNat)):=(bb.has ay).load o! sx
   have dR:=fun {al ps} (k:Pk al _ ps)=>(CN 2<|MM (aI 26 2 x_.aO bh k!)<|VV gL<|VV (bO 3 false false .i64 ((i0:Nat):Int) ((x_.ax.length:Nat):Int))<|BB q2<|CN 2<|MM (aI 26 2 x_.aO bh k!)<|CC<|VV vP<|MM rC<|VV Qb<|MM vY<|CC<|k:Pk _ [] ps)
   rcases Bool.eq_false_or_eq_true (!(aj.g (x_.ax.g i0).toNat)) with f1 | f1
   · exact aC.ret false (by simp only[kY,f1,cond_true,cond_false]) (pk (d) _ _ hh _ hh (dR<|BC f1<|ZZ) k!) (bp.refl aA) k!
   · have Yh:=dZ 3 false true i0 1 o!
     exact aC.round (by simp only[kY,f1,cond_true,cond_false]) (pk (d) _ _ hh _ hh (dR<|BC f1<|VV Yh<|CC<|ZZ) k!) (bp.refl aA) _ k! (fun x=>A3 aU x_ aj a_ bb cf dc iU fW fq cS (i0+1) o! x hh aA ay bh)
def hQ (x_:Task) (aj:List Bool):Bool:=(match (kY x_ aj x_.ax.length 0) with | none=>true | some xC=>xC)
theorem Jh {d:Nat} {h:aw} {aU:AV} (x_:Task) (aj:List Bool) (n6:aG.ok h x_) (iZ:l7 h 4 aU aj) (nE:∀q,q<x_.ax.length→0≤x_.ax.g q∧x_.ax.g q<(aj.length:Int)) (ct:Tidy h):cU (d+1) (.fn 57) [(AV.agg [(AV.str x_.name),(Zi x_.takes),x_.aO,x_.aS]),aU] h= .ret (AV.bool (hQ x_ aj)) h:=by
 have zp:=iZ.small
 have GF:=n6.2.2.small
 obtain ⟨h1,dH,cP,kr,bk,bW⟩:=kh ct (aH.cells [(AV.str x_.name),(Zi x_.takes),x_.aO,x_.aS] 39 false)
 have bB:Has h h1:=bW
 have Di:=A3 (d:=d) (h:=h) aU x_ aj h.nx iZ n6.1 n6.2.1 n6.2.2 n6 nE x_.ax.length 0 o! (fun k_=>(((AV.agg [(AV.str x_.name),(Zi x_.takes),x_.aO,x_.aS])::aU::(Pt h.nx)::AV.undef::(AV.bool false)::(Zi 0)::lk 16):List AV).getD k_ AV.undef) h1 cP bB bk
 cases dz:kY x_ aj x_.ax.length 0 with
 | none=>
   obtain ⟨Cb,h3,dy,dt⟩:=aC.n dz Di
   have l9:=dt.y
   have tz:h1.nx≤h3.nx:=dt.n
   have iy:Has h h3:=bB.trans dt.a
   have e:hQ x_ aj=true:=by simp only[hQ,dz,cond_true,cond_false]
   rw[e]
   exact aE rfl (aZ Tryz.func57 Jg rfl (.inr rfl) (pk (d) _ _ h _ h3 (NN dH (fun i=>(Pt i))<|CN 2<|LL dy<|CC<|ZZ) k!) k!) iy rfl
 | some xC=>
   obtain ⟨Cb,h3,dy,dt⟩:=aC.r dz Di
   have l9:=dt.y
   have tz:h1.nx≤h3.nx:=dt.n
   have iy:Has h h3:=bB.trans dt.a
   have e:hQ x_ aj=xC:=by simp only[hQ,dz,cond_true,cond_false]
   rw[e]
   exact aE rfl (aZ Tryz.func57 Jg rfl (.inr rfl) (pk (d) _ _ h _ h3 (NN dH (fun i=>(Pt i))<|CN 2<|LL dy<|ZZ) k!) k!) iy rfl
end Go.Proofs.aJ
