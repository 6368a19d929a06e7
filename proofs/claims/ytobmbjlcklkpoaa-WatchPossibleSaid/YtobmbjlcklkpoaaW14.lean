import Derived.Test.YtobmbjlcklkpoaaW0
import Derived.Test.YtobmbjlcklkpoaaW3
import Derived.Test.YtobmbjlcklkpoaaW2
import Derived.Test.YtobmbjlcklkpoaaW13
import Derived.Test.YtobmbjlcklkpoaaW4
import Derived.Test.YtobmbjlcklkpoaaW6
import Derived.Test.YtobmbjlcklkpoaaW1
import Derived.Test.YtobmbjlcklkpoaaA7
namespace Go.Proofs.aJ
open Go.Proofs Ab
noncomputable section
set_option maxRecDepth 100000
set_option maxHeartbeats 4000000
set_option linter.unusedVariables false
set_option linter.unusedSimpArgs false
def uj:Code:=(Try.f10.body).getD .skip
theorem aaN:Try.f10.body=some uj:=by kernel_rfl
def aaO:Code:=(ck uj).getD 0 .skip
def aaP:Code:=(ck uj).getD 1 .skip
def kq (q:ay) (i0:Nat) (l_:List aM):Nat→Nat→Int→Int→Bool→Int×Int×Bool
 | 0,_,tM,nt,rO=>(tM,nt,rO)
 | bC+1,i1,tM,nt,rO=>(bif (decide ((jS ((i1:Nat):Int))=((i0:Nat):Int))) then (bif (fC q (cG q l_ ((i1:Nat):Int))) then kq q i0 l_ bC (i1+1) (ah .i64 tM ((i1:Nat):Int)) (M6 .i64 nt ((i1:Nat):Int)) true else kq q i0 l_ bC (i1+1) tM nt rO) else kq q i0 l_ bC (i1+1) tM nt rO)
theorem xU {d:Nat} {h:aw} (lv:AV) (i0:Nat) (q:ay) (l_:List aM) (dC:Nat) (mz:aQ h lv l_) (ql:q.name.length<2^60) (s9:aQ h q.ao q.ar) (vF:aA.ok h q) (LB:∀i,i<l_.length→0≤(l_.g i).aN∧(l_.g i).aN<(q.ar.length:Int)) (S1:l_.length≤64) (aaQ:q.ar.length≤8) (bH:Tidy h) (Cs:h.nx≤dC):∀(k_ i_:Nat) (tM:Int) (nt:Int) (rO:Bool) (_:i_+k_=(eB .i64 1 ((q.ar.length:Nat):Int)).toNat) (x:Nat→AV) (hh:aw) (aL:Tidy hh) (aX:Has h hh) (gI:h.nx≤hh.nx) (cU:hh.get dC=some (aY.cells [(AV.str q.name),(Zi q.af),(Zi q.ab),(Zi q.aC),(Zi q.aD),(Zi q.bad),q.ao] 26 false)),cP (σ:=Int×Int×Bool) (ζ:=Unit) (cJ (d+4)) aaP ⟨((x 0)::lv::(Pt dC)::rx x 3 5 ((Zn i0)::(Zi tM)::(Zi nt)::(AV.bool rO)::(Zn i_)::rx x 13 43 [])),hh,[],.no⟩ (.exit 2) hh (fun r z y=>((y 0)::lv::(Pt dC)::rx y 3 5 ((Zn i0)::(Zi r.1)::(Zi r.2.1)::(AV.bool r.2.2)::rx y 12 44 []))) (fun r z hk=>Has h hk∧hk.get dC=some (aY.cells [(AV.str q.name),(Zi q.af),(Zi q.ab),(Zi q.aC),(Zi q.aD),(Zi q.bad),q.ao] 26 false)) (kq q i0 l_ k_ i_ tM nt rO)
 | 0,i1,tM,nt,rO,jZ,x,hh,aL,aX,gI,cU=>by
   have B0:=mz.small
   have B1:=s9.small
   have BS:=aL _ _ cU
   have sb_:=vK (n:=(q.ar.length:Int)) o! o!
   have ie:dw (some (.slice 63)) (some q.ao)=some (Zn q.ar.length):=s9.len
   have u2:cD env .shl 3 true false (some (Zi 1)) (some (Zn q.ar.length))=some (Zi (eB .i64 1 ((q.ar.length:Nat):Int))):=tf 3 true false .i64 .i64 o!
   have q3:(decide (((i1:Nat):Int)<(eB .i64 1 ((q.ar.length:Nat):Int))))=false:=d!
   exact cP.out (tM,nt,rO) () rfl (pk (d+4) _ _ hh _ hh (CN 2<|MM (aB 24 6 q.ao cU k!)<|VV ie<|VV u2<|VV (bz 3 false false .i64 ((i1:Nat):Int) (eB .i64 1 ((q.ar.length:Nat):Int)))<|BB q3<|ZZ) k!) aL o! ⟨aX,cU⟩ k!
 | bC+1,i1,tM,nt,rO,jZ,x,hh,aL,aX,gI,cU=>by
   have B0:=mz.small
   have B1:=s9.small
   have BS:=aL _ _ cU
   have sb_:=vK (n:=(q.ar.length:Int)) o! o!
   have ie:dw (some (.slice 63)) (some q.ao)=some (Zn q.ar.length):=s9.len
   have u2:cD env .shl 3 true false (some (Zi 1)) (some (Zn q.ar.length))=some (Zi (eB .i64 1 ((q.ar.length:Nat):Int))):=tf 3 true false .i64 .i64 o!
   have q3:(decide (((i1:Nat):Int)<(eB .i64 1 ((q.ar.length:Nat):Int))))=true:=d!
   have k4:=Jl (d:=d+3) ((i1:Nat):Int) aL
   rcases Bool.eq_false_or_eq_true (decide ((jS ((i1:Nat):Int))=((i0:Nat):Int))) with f1 | f1
   · have iK:=of_decide_eq_true f1
     obtain ⟨z6,h8,Gm,rY,fz7,afe⟩:=Ef (d:=d+2) q l_ ((i1:Nat):Int) (aA.mono aX vF) (mz.has aX) (by first | omega | assumption | (simp only[List.length_set,List.length_replicate,List.length_append,List.length_cons,List.length_nil,List.nil_append]<;>omega) | (rw[List.length_take];omega)) (by first | omega | assumption | (simp only[List.length_set,List.length_replicate,List.length_append,List.length_cons,List.length_nil,List.nil_append]<;>omega) | (rw[List.length_take];omega)) aL
     have tg:=rY.y
     have Sr:hh.nx≤h8.nx:=rY.n
     have qu:Has h h8:=aX.trans rY.a
     have mQ:Has hh h8:=rY.a
     have acp:=fz7.small
     have acq:=ug q l_ ((i1:Nat):Int)
     have k9:=Eb (d:=d+2) q (cG q l_ ((i1:Nat):Int)) (aA.mono qu vF) fz7 tg
     have vG:AV.same 20 (AV.agg [(AV.str q.name),(Zi q.af),(Zi q.ab),(Zi q.aC),(Zi q.aD),(Zi q.bad),q.ao]) (AV.agg [(AV.str q.name),(Zi q.af),(Zi q.ab),(Zi q.aC),(Zi q.aD),(Zi q.bad),q.ao])=true:=dx 18 (hD (fun n=>iJ n _) (hD (fun n=>aG n _ _) (hD (fun n=>aG n _ _) (hD (fun n=>aG n _ _) (hD (fun n=>aG n _ _) (hD (fun n=>aG n _ _) (hD s9.same AF)))))))
     rcases Bool.eq_false_or_eq_true (fC q (cG q l_ ((i1:Nat):Int))) with f2 | f2
     · have RO:cD env .and 3 false false (some (Zi tM)) (some (Zn i1))=some (Zi (ah .i64 tM ((i1:Nat):Int))):=jR 3 false false .i64 tM ((i1:Nat):Int)
       have V5:cD env .or 3 false false (some (Zi nt)) (some (Zn i1))=some (Zi (M6 .i64 nt ((i1:Nat):Int))):=M7 3 false false .i64 nt ((i1:Nat):Int)
       have ZV:=eR 3 false true i1 1 o!
       exact cP.round (by simp only[kq,f1,f2,aj,ai]) (pk (d+4) _ _ hh _ h8 (CN 2<|MM (aB 24 6 q.ao cU k!)<|VV ie<|VV u2<|VV (bz 3 false false .i64 ((i1:Nat):Int) (eB .i64 1 ((q.ar.length:Nat):Int)))<|BB q3<|CN 2<|EE k4<|VV (fh 3 false false .i64 (jS ((i1:Nat):Int)) ((i0:Nat):Int))<|CC<|BM f1 (aB 26 0 (AV.agg [(AV.str q.name),(Zi q.af),(Zi q.ab),(Zi q.aC),(Zi q.aD),(Zi q.bad),q.ao]) cU k!)<|BM f1 (aB 26 0 (AV.agg [(AV.str q.name),(Zi q.af),(Zi q.ab),(Zi q.aC),(Zi q.aD),(Zi q.bad),q.ao]) cU k!)<|BC f1<|BC f1<|BB f1<|EE Gm<|BB f1<|EE k9<|VV (jA (fC q (cG q l_ ((i1:Nat):Int))) false f1)<|HH (aB 26 0 (AV.agg [(AV.str q.name),(Zi q.af),(Zi q.ab),(Zi q.aC),(Zi q.aD),(Zi q.bad),q.ao]) cU k!)<|HH vG<|HH (aB 26 0 (AV.agg [(AV.str q.name),(Zi q.af),(Zi q.ab),(Zi q.aC),(Zi q.aD),(Zi q.bad),q.ao]) (rY.a _ _ cU) k!)<|HH vG<|HH (aB 26 0 (AV.agg [(AV.str q.name),(Zi q.af),(Zi q.ab),(Zi q.aC),(Zi q.aD),(Zi q.bad),q.ao]) cU k!)<|HH vG<|BB f2<|CN 2<|VV RO<|CN 3<|VV V5<|CN 3<|VV ZV<|CC<|ZZ) k!) o! _ k! (fun x=>xU lv i0 q l_ dC mz ql s9 vF LB S1 aaQ bH Cs bC (i1+1) (ah .i64 tM ((i1:Nat):Int)) (M6 .i64 nt ((i1:Nat):Int)) true o! x h8 tg qu o! (rY.a _ _ cU))
     · have RO:=eR 3 false true i1 1 o!
       exact cP.round (by simp only[kq,f1,f2,aj,ai]) (pk (d+4) _ _ hh _ h8 (CN 2<|MM (aB 24 6 q.ao cU k!)<|VV ie<|VV u2<|VV (bz 3 false false .i64 ((i1:Nat):Int) (eB .i64 1 ((q.ar.length:Nat):Int)))<|BB q3<|CN 2<|EE k4<|VV (fh 3 false false .i64 (jS ((i1:Nat):Int)) ((i0:Nat):Int))<|CC<|BM f1 (aB 26 0 (AV.agg [(AV.str q.name),(Zi q.af),(Zi q.ab),(Zi q.aC),(Zi q.aD),(Zi q.bad),q.ao]) cU k!)<|BM f1 (aB 26 0 (AV.agg [(AV.str q.name),(Zi q.af),(Zi q.ab),(Zi q.aC),(Zi q.aD),(Zi q.bad),q.ao]) cU k!)<|BC f1<|BC f1<|BB f1<|EE Gm<|BB f1<|EE k9<|VV (jA (fC q (cG q l_ ((i1:Nat):Int))) false f1)<|HH (aB 26 0 (AV.agg [(AV.str q.name),(Zi q.af),(Zi q.ab),(Zi q.aC),(Zi q.aD),(Zi q.bad),q.ao]) cU k!)<|HH vG<|HH (aB 26 0 (AV.agg [(AV.str q.name),(Zi q.af),(Zi q.ab),(Zi q.aC),(Zi q.aD),(Zi q.bad),q.ao]) (rY.a _ _ cU) k!)<|HH vG<|HH (aB 26 0 (AV.agg [(AV.str q.name),(Zi q.af),(Zi q.ab),(Zi q.aC),(Zi q.aD),(Zi q.bad),q.ao]) cU k!)<|HH vG<|BC f2<|VV RO<|CC<|ZZ) k!) o! _ k! (fun x=>xU lv i0 q l_ dC mz ql s9 vF LB S1 aaQ bH Cs bC (i1+1) tM nt rO o! x h8 tg qu o! (rY.a _ _ cU))
   · have iK:=of_decide_eq_false f1
     have u6:=eR 3 false true i1 1 o!
     exact cP.round (by simp only[kq,f1,aj,ai]) (pk (d+4) _ _ hh _ hh (CN 2<|MM (aB 24 6 q.ao cU k!)<|VV ie<|VV u2<|VV (bz 3 false false .i64 ((i1:Nat):Int) (eB .i64 1 ((q.ar.length:Nat):Int)))<|BB q3<|CN 2<|EE k4<|VV (fh 3 false false .i64 (jS ((i1:Nat):Int)) ((i0:Nat):Int))<|CC<|BB f1<|BB f1<|BB f1<|BB f1<|BB f1<|BV f1 (pN false f1)<|FF<|CC<|VV u6<|CC<|ZZ) k!) o! _ k! (fun x=>xU lv i0 q l_ dC mz ql s9 vF LB S1 aaQ bH Cs bC (i1+1) tM nt rO o! x hh aL aX o! cU)
def CT (q:ay) (l_:List aM):Nat→Nat→Option (List Int×List Int)
 | 0,_=>none
 | k+1,i0=>bif (kq q i0 l_ (eB .i64 1 ((q.ar.length:Nat):Int)).toNat 0 255 0 false).2.2 then some (mr (kq q i0 l_ (eB .i64 1 ((q.ar.length:Nat):Int)).toNat 0 255 0 false).1,mr (kq q i0 l_ (eB .i64 1 ((q.ar.length:Nat):Int)).toNat 0 255 0 false).2.1) else CT q l_ k (i0+1)
theorem Ha {d:Nat} {h:aw} {lv:AV} {q:ay} {l_:List aM} {bq:Nat} (bH:Tidy h) (hq:aA.ok h q) (hl:aQ h lv l_) (jP:∀i,i<l_.length→0≤(l_.g i).aN∧(l_.g i).aN<(q.ar.length:Int)) (p1:l_.length≤64) (p2:q.ar.length≤8) (WS:q.bad≤8) (hb:h.nx≤bq):∀(k i0:Nat) (x:Nat→AV) (hh:aw),i0+k=(q.bad+1).toNat→Tidy hh→Has h hh→h.nx≤hh.nx→hh.get bq=some (.cells (aA.c q) 26 false)→
 CM (cJ (d+4)) aaO ⟨((x 0)::lv::(Pt bq)::rx x 3 5 ((Zn i0)::rx x 9 47 [])),hh,[],.no⟩ (.exit 0) h hh (fun y=>rx y 0 56 []) (fun z1 z2 y=>rx y 0 4 (z1::z2::Zi 0::rx y 7 49 [])) (CT q l_ k i0)
 | 0,i0,x,hh,jZ,aL,aX,gI,gq=>by
   have T_q:=aL _ _ gq
   have q1:(decide (((i0:Nat):Int)≤q.bad))=false:=d!
   exact CM.out (pk (d+4) _ _ hh _ hh (CN 2<|MM (aB 3 5 (Zi q.bad) gq k!)<|VV (gR 3 false false .i64 ((i0:Nat):Int) q.bad)<|BB q1<|ZZ) k!) aL (Nat.le_refl _) aX k!
 | k+1,i0,x,hh,jZ,aL,aX,gI,gq=>by
   have T_q:=aL _ _ gq
   rw[CT]
   rcases Bool.eq_false_or_eq_true (kq q i0 l_ (eB .i64 1 ((q.ar.length:Nat):Int)).toNat 0 255 0 false).2.2 with f1 | f1
   · rw[f1,aj]
     have q1:(decide (((i0:Nat):Int)≤q.bad))=true:=d!
     obtain ⟨_,OH,h3,fi,eZ,qn,oU,oV⟩:=xU (d:=d) (h:=h) lv i0 q l_ bq hl hq.1 hq.2 hq jP o! o! bH o! (eB .i64 1 ((q.ar.length:Nat):Int)).toNat 0 255 0 false o! (fun k_=>(((x 0)::lv::(Pt bq)::rx x 3 5 ((Zn i0)::(Zi 255)::(Zi 0)::(AV.bool false)::(Zi 0)::rx x 13 6 ((Zn i0)::(AV.ptr bq 5)::(Zi q.bad)::(AV.bool (decide (((i0:Nat):Int)≤q.bad)))::rx x 23 33 []))):List AV).getD k_ AV.undef) hh aL aX o! gq
     have Sw:=vK (n:=(q.ar.length:Int)) o! o!
     have fu:Has h h3:=oU
     have q4:((kq q i0 l_ (eB .i64 1 ((q.ar.length:Nat):Int)).toNat 0 255 0 false).2.2)=true:=f1
     obtain ⟨z5,h7,af7,Ah,fz6,af8⟩:=CQ (d:=d+2) (kq q i0 l_ (eB .i64 1 ((q.ar.length:Nat):Int)).toNat 0 255 0 false).1 eZ
     have iR:=Ah.y
     have V1:h3.nx≤h7.nx:=Ah.n
     have hI:Has h h7:=fu.trans Ah.a
     have WT:Has h3 h7:=Ah.a
     have agW:=fz6.small
     obtain ⟨z8,oQ,JO,nJ,fz9,af9⟩:=CQ (d:=d+2) (kq q i0 l_ (eB .i64 1 ((q.ar.length:Nat):Int)).toNat 0 255 0 false).2.1 iR
     have mb:=nJ.y
     have IZ:h7.nx≤oQ.nx:=nJ.n
     have lH:Has h oQ:=hI.trans nJ.a
     have adH:Has h3 oQ:=WT.trans nJ.a
     have JV:Has h7 oQ:=nJ.a
     have agX:=fz9.small
     exact CM.ret (r:=(_,_)) (pk (d+4) _ _ hh _ oQ (CN 2<|MM (aB 3 5 (Zi q.bad) gq k!)<|VV (gR 3 false false .i64 ((i0:Nat):Int) q.bad)<|BB q1<|CN 4<|LL fi<|CC<|BC q4<|EE af7<|CC<|EE JO<|CN 3<|ZZ) k!) mb o! lH (fz6.has JV) ((af8.has JV).le o!) fz9 (af9.le o!) k!
   · rw[f1,ai]
     have q1:(decide (((i0:Nat):Int)≤q.bad))=true:=d!
     obtain ⟨_,OH,h3,fi,eZ,qn,oU,oV⟩:=xU (d:=d) (h:=h) lv i0 q l_ bq hl hq.1 hq.2 hq jP o! o! bH o! (eB .i64 1 ((q.ar.length:Nat):Int)).toNat 0 255 0 false o! (fun k_=>(((x 0)::lv::(Pt bq)::rx x 3 5 ((Zn i0)::(Zi 255)::(Zi 0)::(AV.bool false)::(Zi 0)::rx x 13 6 ((Zn i0)::(AV.ptr bq 5)::(Zi q.bad)::(AV.bool (decide (((i0:Nat):Int)≤q.bad)))::rx x 23 33 []))):List AV).getD k_ AV.undef) hh aL aX o! gq
     have Sw:=vK (n:=(q.ar.length:Int)) o! o!
     have fu:Has h h3:=oU
     have q4:((kq q i0 l_ (eB .i64 1 ((q.ar.length:Nat):Int)).toNat 0 255 0 false).2.2)=false:=f1
     have u5:=eR 3 false true i0 1 o!
     exact CM.round (pk (d+4) _ _ hh _ h3 (CN 2<|MM (aB 3 5 (Zi q.bad) gq k!)<|VV (gR 3 false false .i64 ((i0:Nat):Int) q.bad)<|BB q1<|CN 4<|LL fi<|CC<|BC q4<|VV u5<|CC<|ZZ) k!) o! _ k! (fun x=>Ha bH hq hl jP p1 p2 WS hb k (i0+1) x h3 o! eZ fu o! oV)
def cf (q:ay) (l_:List aM):List Int×List Int×Int:=bif !decide (aO q l_=0) then ([],[],aO q l_) else (match CT q l_ (q.bad+1).toNat 0 with | none=>([],[],0) | some r=>(r.1,r.2,0))
theorem Hb {d:Nat} {h:aw} {lv:AV} {q:ay} {l_:List aM} (bH:Tidy h) (hq:aA.ok h q) (hl:aQ h lv l_):
 ∃z1 z2 hk,cJ (d+5) (.fn 10) [.agg (aA.c q),lv] h= .ret (.tuple [z1,z2,Zi (cf q l_).2.2]) hk∧Grow h hk∧gA hk .i64 3 z1 (cf q l_).1∧gA hk .i64 3 z2 (cf q l_).2.1:=by
 rcases Bool.eq_false_or_eq_true (!decide (aO q l_=0)) with f0 | f0
 · rw[cf,f0,aj]
   obtain ⟨h1,bD,bN,fX,aH,bZ⟩:=gu bH (aY.cells [(AV.str q.name),(Zi q.af),(Zi q.ab),(Zi q.aC),(Zi q.aD),(Zi q.bad),q.ao] 26 false)
   have bk:Has h h1:=bZ
   have k2:=jB (d:=d) q l_ (aA.mono bk hq) (hl.has bk) bN
   have q3:(!decide ((aO q l_)=0))=true:=d!
   have ev:=pk (d+4) uj ((AV.agg [(AV.str q.name),(Zi q.af),(Zi q.ab),(Zi q.aC),(Zi q.aD),(Zi q.bad),q.ao])::lv::jl 54) h .ret h1 (NN bD (fun i=>(Pt i))<|CN 3<|MM (aB 26 0 (AV.agg [(AV.str q.name),(Zi q.af),(Zi q.ab),(Zi q.aC),(Zi q.aD),(Zi q.bad),q.ao]) aH k!)<|CC<|EE k2<|CN 2<|VV (eh 31 false true .i64 (aO q l_) 0)<|BB q3<|CN 4<|ZZ) k!
   obtain ⟨hk,e,q⟩:=od bH rfl (a_ (v:= .tuple [.aK,.aK,Zi (aO q l_)]) Try.func10 aaN k! (.inr rfl) ev k!) bN o! bk (tL _) (.inl ⟨rfl,rfl⟩) (tL _) (.inl ⟨rfl,rfl⟩)
   exact ⟨_,_,hk,e,q⟩
 · have Us:aO q l_=0:=by cases hd:decide (aO q l_=0) with | true=>exact of_decide_eq_true hd | false=>rw[hd] at f0;cases f0
   have jP:=(fR (Us)).1
   have p1:=(fR (Us)).2.1
   have p2:=(fR (Us)).2.2
   have WS:q.bad≤8:=by have:=(Ej (Us)).bad;omega
   rw[cf,f0,ai]
   rcases Kp:CT q l_ (q.bad+1).toNat 0 with _ | ⟨A,B⟩
   · skip
     obtain ⟨h1,bD,bN,fX,aH,bZ⟩:=gu bH (aY.cells [(AV.str q.name),(Zi q.af),(Zi q.ab),(Zi q.aC),(Zi q.aD),(Zi q.bad),q.ao] 26 false)
     have bk:Has h h1:=bZ
     have k2:=jB (d:=d) q l_ (aA.mono bk hq) (hl.has bk) bN
     have q3:(!decide ((aO q l_)=0))=false:=d!
     have SL:=Ha (d:=d) (bq:=h.nx) bH hq hl jP p1 p2 WS o! (q.bad+1).toNat 0 (fun k_=>(((AV.agg [(AV.str q.name),(Zi q.af),(Zi q.ab),(Zi q.aC),(Zi q.aD),(Zi q.bad),q.ao])::lv::(Pt h.nx)::AV.undef::AV.aK::AV.aK::(Zi 0)::(Zi (aO q l_))::(Zi 0)::AV.undef::AV.undef::AV.undef::AV.undef::(AV.agg [(AV.str q.name),(Zi q.af),(Zi q.ab),(Zi q.aC),(Zi q.aD),(Zi q.bad),q.ao])::lv::(Zi (aO q l_))::(Zi (aO q l_))::(AV.bool (!decide ((aO q l_)=0)))::jl 38):List AV).getD k_ AV.undef) h1 o! bN bk o! aH
     rw[Kp] at SL
     obtain ⟨yl5,h4,L6,ng,R1,JI⟩:=SL
     have mA:Has h h4:=JI
     have ev:=pk (d+4) uj ((AV.agg [(AV.str q.name),(Zi q.af),(Zi q.ab),(Zi q.aC),(Zi q.aD),(Zi q.bad),q.ao])::lv::jl 54) h .ret h4 (NN bD (fun i=>(Pt i))<|CN 3<|MM (aB 26 0 (AV.agg [(AV.str q.name),(Zi q.af),(Zi q.ab),(Zi q.aC),(Zi q.aD),(Zi q.bad),q.ao]) aH k!)<|CC<|EE k2<|CN 2<|VV (eh 31 false true .i64 (aO q l_) 0)<|BC q3<|LL L6<|CN 3<|ZZ) k!
     obtain ⟨hk,e,q⟩:=od bH rfl (a_ (v:= .tuple [.aK,.aK,Zi 0]) Try.func10 aaN k! (.inr rfl) ev k!) ng o! mA (tL _) (.inl ⟨rfl,rfl⟩) (tL _) (.inl ⟨rfl,rfl⟩)
     exact ⟨_,_,hk,e,q⟩
   · skip
     obtain ⟨h1,bD,bN,fX,aH,bZ⟩:=gu bH (aY.cells [(AV.str q.name),(Zi q.af),(Zi q.ab),(Zi q.aC),(Zi q.aD),(Zi q.bad),q.ao] 26 false)
     have bk:Has h h1:=bZ
     have k2:=jB (d:=d) q l_ (aA.mono bk hq) (hl.has bk) bN
     have q3:(!decide ((aO q l_)=0))=false:=d!
     have SL:=Ha (d:=d) (bq:=h.nx) bH hq hl jP p1 p2 WS o! (q.bad+1).toNat 0 (fun k_=>(((AV.agg [(AV.str q.name),(Zi q.af),(Zi q.ab),(Zi q.aC),(Zi q.aD),(Zi q.bad),q.ao])::lv::(Pt h.nx)::AV.undef::AV.aK::AV.aK::(Zi 0)::(Zi (aO q l_))::(Zi 0)::AV.undef::AV.undef::AV.undef::AV.undef::(AV.agg [(AV.str q.name),(Zi q.af),(Zi q.ab),(Zi q.aC),(Zi q.aD),(Zi q.bad),q.ao])::lv::(Zi (aO q l_))::(Zi (aO q l_))::(AV.bool (!decide ((aO q l_)=0)))::jl 38):List AV).getD k_ AV.undef) h1 o! bN bk o! aH
     rw[Kp] at SL
     obtain ⟨z6,z7,yl5,h4,L6,ng,R1,JI,q1,o1,q2,o2⟩:=SL
     have mA:Has h h4:=JI
     have ev:=pk (d+4) uj ((AV.agg [(AV.str q.name),(Zi q.af),(Zi q.ab),(Zi q.aC),(Zi q.aD),(Zi q.bad),q.ao])::lv::jl 54) h .ret h4 (NN bD (fun i=>(Pt i))<|CN 3<|MM (aB 26 0 (AV.agg [(AV.str q.name),(Zi q.af),(Zi q.ab),(Zi q.aC),(Zi q.aD),(Zi q.bad),q.ao]) aH k!)<|CC<|EE k2<|CN 2<|VV (eh 31 false true .i64 (aO q l_) 0)<|BC q3<|LL L6<|ZZ) k!
     obtain ⟨hk,e,q⟩:=od bH rfl (a_ (v:= .tuple [z6,z7,Zi 0]) Try.func10 aaN k! (.inr rfl) ev k!) ng o! mA q1 o1 q2 o2
     exact ⟨_,_,hk,e,q⟩
theorem lL {a:Nat} (h:a<256):(BitVec.ofInt 64 ((a:Nat):Int)).toNat=a:=by
 rw[BitVec.ofInt_natCast,BitVec.toNat_ofNat,Nat.mod_eq_of_lt o!]
theorem adI {a b:Nat} (ha:a<256) (hb:b<256):ah .i64 ((a:Nat):Int) ((b:Nat):Int)=((a&&& b:Nat):Int):=by
 show IntKind.i64.wrap ((BitVec.ofInt 64 ((a:Nat):Int)&&& BitVec.ofInt 64 ((b:Nat):Int)).toNat:Nat)=_
 rw[BitVec.toNat_and,lL ha,lL hb]
 have:a&&& b≤a:=Nat.and_le_left
 exact wrap_i64 o! o!
theorem adJ {a b:Nat} (ha:a<256) (hb:b<256):ah .u64 ((a:Nat):Int) ((b:Nat):Int)=((a&&& b:Nat):Int):=by
 show IntKind.u64.wrap ((BitVec.ofInt 64 ((a:Nat):Int)&&& BitVec.ofInt 64 ((b:Nat):Int)).toNat:Nat)=_
 rw[BitVec.toNat_and,lL ha,lL hb]
 have:a&&& b≤a:=Nat.and_le_left
 exact Int.emod_eq_of_lt o! (show _<(18446744073709551616:Int) by omega)
theorem ND {a b:Nat} (ha:a<256) (hb:b<256):a||| b<256:=Nat.or_lt_two_pow (n:=8) ha hb
theorem aga {a b:Nat} (ha:a<256) (hb:b<256):M6 .i64 ((a:Nat):Int) ((b:Nat):Int)=((a||| b:Nat):Int):=by
 show IntKind.i64.wrap ((BitVec.ofInt 64 ((a:Nat):Int)||| BitVec.ofInt 64 ((b:Nat):Int)).toNat:Nat)=_
 rw[BitVec.toNat_or,lL ha,lL hb]
 have:=ND ha hb
 exact wrap_i64 o! o!
theorem agb {a b:Nat} (ha:a<256) (hb:b<256):M6 .u64 ((a:Nat):Int) ((b:Nat):Int)=((a||| b:Nat):Int):=by
 show IntKind.u64.wrap ((BitVec.ofInt 64 ((a:Nat):Int)||| BitVec.ofInt 64 ((b:Nat):Int)).toNat:Nat)=_
 rw[BitVec.toNat_or,lL ha,lL hb]
 have:=ND ha hb
 exact Int.emod_eq_of_lt o! (show _<(18446744073709551616:Int) by omega)
theorem Hc {x:Nat} (hx:x<256):∀(k i:Nat) (v:List Int),i+k≤8→eX ((x:Nat):Int) k i v=fH ((x:Nat):Int) k i v
 | 0,i,v,h=>rfl
 | k+1,i,v,h=>by
   rw[eX,fH,Tb hx o! o!,Lm hx o! o!,Hc hx k (i+1) _ o!,Hc hx k (i+1) _ o!]
theorem NF {x:Nat} (hx:x<256):km ((x:Nat):Int)=mr ((x:Nat):Int):=Hc hx 8 0 [] o!
def vW (q:ay) (l:List aM) (m:Int) (s:Nat):Bool:=decide (jS ((s:Nat):Int)=m)&&fC q (cG q l ((s:Nat):Int))
theorem NG (q:ay) (l:List aM) (i0:Nat):∀(k i:Nat) (a c:Nat) (b:Bool),i+k≤256→a<256→c<256→
 ∃a' c':Nat,a'<256∧c'<256∧a'=((List.range' i k).filter (vW q l ((i0:Nat):Int))).foldl (· &&& ·) a∧c'=((List.range' i k).filter (vW q l ((i0:Nat):Int))).foldl (· ||| ·) c∧kq q i0 l k i ((a:Nat):Int) ((c:Nat):Int) b=(((a':Nat):Int),((c':Nat):Int),b|| !((List.range' i k).filter (vW q l ((i0:Nat):Int))).isEmpty)
 | 0,i,a,c,b,h,ha,hc=>⟨a,c,ha,hc,rfl,rfl,by rw[kq];simp⟩
 | k+1,i,a,c,b,h,ha,hc=>by
   rw[kq,List.range'_succ,List.filter_cons]
   cases h1:decide (jS ((i:Nat):Int)=((i0:Nat):Int)) with
   | false=>
     have e:vW q l ((i0:Nat):Int) i=false:=by rw[vW,h1];rfl
     rw[ai,e,if_neg (by decide)]
     exact NG q l i0 k (i+1) a c b o! ha hc
   | true=>
     rw[aj]
     cases h2:fC q (cG q l ((i:Nat):Int)) with
     | false=>
       have e:vW q l ((i0:Nat):Int) i=false:=by rw[vW,h1,h2];rfl
       rw[ai,e,if_neg (by decide)]
       exact NG q l i0 k (i+1) a c b o! ha hc
     | true=>
       have e:vW q l ((i0:Nat):Int) i=true:=by rw[vW,h1,h2];rfl
       rw[aj,e,if_pos rfl,adI ha o!,aga hc o!]
       obtain ⟨a',c',p1,p2,p3,p4,p5⟩:=NG q l i0 k (i+1) (a&&& i) (c||| i) true o! (Nat.lt_of_le_of_lt Nat.and_le_left ha) (ND hc o!)
       refine ⟨a',c',p1,p2,p3,p4,?_⟩
       rw[p5];simp
theorem TI:∀(L:List Nat) (a:Nat),a<256→(∀s∈L,s<256)→(L.map fun s=>((s:Nat):Int)).foldl (fun a y=>ah .u64 a y) ((a:Nat):Int)=((L.foldl (· &&& ·) a:Nat):Int)
 | [],a,_,_=>rfl
 | s::L,a,ha,hL=>by
   rw[List.map_cons,List.foldl_cons,List.foldl_cons,adJ ha (hL s (List.mem_cons_self ..))]
   exact TI L _ (Nat.lt_of_le_of_lt Nat.and_le_left ha) fun t ht=>hL t (List.mem_cons_of_mem _ ht)
theorem TJ:∀(L:List Nat) (a:Nat),a<256→(∀s∈L,s<256)→(L.map fun s=>((s:Nat):Int)).foldl (fun a y=>M6 .u64 a y) ((a:Nat):Int)=((L.foldl (· ||| ·) a:Nat):Int)
 | [],a,_,_=>rfl
 | s::L,a,ha,hL=>by
   rw[List.map_cons,List.foldl_cons,List.foldl_cons,agb ha (hL s (List.mem_cons_self ..))]
   exact TJ L _ (ND ha (hL s (List.mem_cons_self ..))) fun t ht=>hL t (List.mem_cons_of_mem _ ht)
section
variable {q:ay} {l:List aM} (f:RF q l)
include f
theorem TL {s:Nat} (hs:s<256):(dj q l [] ((s:Nat):Int)).isSome=fC q (cG q l ((s:Nat):Int)):=by
 have t:=(yZ f hs (r:=[]) (fun g hg=>by cases hg)).1
 have e:=Gw f hs
 cases h:dj q l [] ((s:Nat):Int) with
 | none=>
   have:=t.1 h
   cases h2:fC q (cG q l ((s:Nat):Int)) with
   | true=>exact absurd (e.1 h2) this
   | false=>rfl
 | some w=>
   cases h2:fC q (cG q l ((s:Nat):Int)) with
   | true=>rfl
   | false=>
     have:¬Cq q l s:=fun c=>by rw[e.2 c] at h2;cases h2
     rw[t.2 this] at h;cases h
theorem JW (m:Int):∀L:List Nat,(∀s∈L,s<256)→((((L.filter fun s=>decide (ji ((s:Nat):Int)=m)).map fun s=> [AV.int .u64 ((s:Nat):Int)]).filterMap (Eu q l [])).map Prod.fst)=(L.filter (vW q l m)).map fun s=>((s:Nat):Int)
 | [],_=>rfl
 | s::L,hL=>by
   have hs:=hL s (List.mem_cons_self ..)
   have ih:=JW m L fun t ht=>hL t (List.mem_cons_of_mem _ ht)
   have e1:vW q l m s=(decide (ji ((s:Nat):Int)=m)&&fC q (cG q l ((s:Nat):Int))):=by rw[vW,GO hs,Nh hs]
   rw[List.filter_cons,List.filter_cons,e1]
   cases h1:decide (ji ((s:Nat):Int)=m) with
   | false=>exact ih
   | true=>
     rw[if_pos rfl,List.map_cons,List.filterMap_cons]
     have e2:Eu q l [] [AV.int .u64 ((s:Nat):Int)]=(dj q l [] ((s:Nat):Int)).map (fun w=>(((s:Nat):Int),w)):=rfl
     rw[e2]
     have t:=TL f hs
     cases h2:dj q l [] ((s:Nat):Int) with
     | none=>
       rw[h2] at t
       rw[←t]
       exact ih
     | some w=>
       rw[h2] at t
       rw[←t]
       show ((((s:Nat):Int),w)::_).map Prod.fst=_
       rw[List.map_cons,ih];rfl
theorem step_eq (i0:Nat):(!List.isEmpty (ct q l [] ((i0:Nat):Int)))=(kq q i0 l (eB .i64 1 ((q.ar.length:Nat):Int)).toNat 0 255 0 false).2.2∧km (vV (ct q l [] ((i0:Nat):Int)))=mr (kq q i0 l (eB .i64 1 ((q.ar.length:Nat):Int)).toNat 0 255 0 false).1∧km (r6 (ct q l [] ((i0:Nat):Int)))=mr (kq q i0 l (eB .i64 1 ((q.ar.length:Nat):Int)).toNat 0 255 0 false).2.1:=by
 have hb:=f.bad
 have hp:=xA hb.2.2
 have sm:∀s∈List.range' 0 (2^q.ar.length),s<256:=fun s hs=>by have:=List.mem_range'_1.1 hs;omega
 have A:=JW f ((i0:Nat):Int) (List.range' 0 (2^q.ar.length)) sm
 rw[←xS] at A
 have eA:(ct q l [] ((i0:Nat):Int)).map Prod.fst=((List.range' 0 (2^q.ar.length)).filter (vW q l ((i0:Nat):Int))).map fun s=>((s:Nat):Int):=by rw[ct,GP hb.2.2];exact A
 have sm2:∀s∈(List.range' 0 (2^q.ar.length)).filter (vW q l ((i0:Nat):Int)),s<256:=fun s hs=>sm s (List.mem_filter.1 hs).1
 obtain ⟨a',c',p1,p2,p3,p4,p5⟩:=NG q l i0 (2^q.ar.length) 0 255 0 false o! (by decide) (by decide)
 rw[SD hb.2.2]
 have p5':kq q i0 l (2^q.ar.length) 0 255 0 false=(((a':Nat):Int),((c':Nat):Int),false|| !((List.range' 0 (2^q.ar.length)).filter (vW q l ((i0:Nat):Int))).isEmpty):=p5
 rw[p5']
 have sa:vV (ct q l [] ((i0:Nat):Int))=((a':Nat):Int):=by
  rw[vV,p3,←TI _ 255 (by decide) sm2,←eA,List.foldl_map];rfl
 have sc:r6 (ct q l [] ((i0:Nat):Int))=((c':Nat):Int):=by
  rw[r6,p4,←TJ _ 0 (by decide) sm2,←eA,List.foldl_map];rfl
 refine ⟨?_,by rw[sa];exact NF p1,by rw[sc];exact NF p2⟩
 have len:=congrArg List.isEmpty eA
 simp only[List.isEmpty_map] at len
 rw[len];rfl
theorem TM:∀(k i:Nat),CO q l k i=CT q l k i
 | 0,i=>rfl
 | k+1,i=>by
   obtain ⟨a,b,c⟩:=step_eq f i
   rw[CO,CT,a,b,c,TM k (i+1)]
end
theorem JX (q:ay) (l:List aM):ca q l=cf q l:=by
 rw[ca,cf,iV]
 by_cases h:aO q l=0
 · rw[decide_eq_true h]
   rw[TM (Ej h)]
   rfl
 · rw[decide_eq_false h];rfl
theorem NH {d:Nat} {h:aw}:cJ (d+1) (.fn 5) [] h= .ret (.bool true) h:=by
 have e:M0 5 [] h=some (.bool true,h):=rfl
 show e_ env M0 (d+1) (.fn 5) _ h=_
 simp only[e_,e]
theorem JY {d:Nat} {h:aw} {dB:AV} (q:ay) (l_:List aM) (t:Int) (eP:aA.ok h q) (eY:aQ h dB l_) (jP:∀i,i<l_.length→0≤(l_.g i).aN∧(l_.g i).aN<(q.ar.length:Int)) (OM:l_.length≤12) (Wa:q.ar.length≤8) (bH:Tidy h):∃z hk,cJ (d+13) (.fn 17) [(AV.agg [(AV.str q.name),(Zi q.af),(Zi q.ab),(Zi q.aC),(Zi q.aD),(Zi q.bad),q.ao]),dB,(Zi t)] h= .ret z hk∧Grow h hk∧(aQ hk z (eW q l_ t)∧bu h hk z (eW q l_ t)):=by
 obtain ⟨z,hk,e,y,n,a,o⟩:=LP (d:=d) (t:=t) bH eP eY OM Wa jP (fun e=>WN OM e)
 refine ⟨z,hk,e,⟨y,a,n⟩,bu.rows o ?_ (fun _ _=>trivial),o⟩
 have:∀(S:List Span) (k i:Nat) (L:List Span),(pc S k i L).length≤L.length+k:=by
  intro S k
  induction k with
  | zero=>intro i L;rw[pc];omega
  | succ k ih=>
    intro i L
    rw[pc]
    have h1:=ih (i+1) (L++[S.g i])
    rw[List.length_append,List.length_singleton] at h1
    have h2:=ih (i+1)
    cases decide (0≤(((L.length:Nat):Int) - 1)) with
    | false=>simp only[ai];omega
    | true=>
      rw[aj]
      cases decide ((S.g i).aP≤(IntKind.i64.wrap (((L.g (((L.length:Nat):Int) - 1).toNat).aF)+1)))
      · rw[ai];omega
      · rw[aj]
        have:=h2 (L.set (((L.length:Nat):Int) - 1).toNat ({(L.g (((L.length:Nat):Int) - 1).toNat) with aF:=(imax (L.g (((L.length:Nat):Int) - 1).toNat).aF (S.g i).aF)}:Span))
        rw[List.length_set] at this;omega
 have h1:=this (lJ ((ct q l_ [bw t] q.bad).map fun y=>kF y.2 t)) (lJ ((ct q l_ [bw t] q.bad).map fun y=>kF y.2 t)).length 0 []
 rw[lK,List.length_map] at h1
 have h2:(ct q l_ [bw t] q.bad).length≤2^q.ar.length:=by
  rw[ct,GP Wa,xS]
  refine Nat.le_trans (List.length_filterMap_le _ _) ?_
  rw[List.length_map]
  refine Nat.le_trans (List.length_filter_le _ _) ?_
  rw[List.length_range'];exact Nat.le_refl _
 have h3:=xA Wa
 rw[eW,nq,lK,List.length_map]
 rw[List.length_nil] at h1
 omega
theorem NI {q:ay} {l:List aM} (h:eS q l=false):l.length≤12∨64<l.length:=by
 rw[eS] at h
 by_cases a:(12:Int)<((l.length:Nat):Int)
 · by_cases b:((l.length:Nat):Int)≤64
   · exfalso
     rw[decide_eq_true a,decide_eq_true b] at h
     revert h
     cases decide (100<((List.length q.name:Nat):Int))<;>cases decide (6<((q.ar.length:Nat):Int))<;>cases decide (((q.ar.length:Nat):Int)≤8)<;>cases decide (20<((q.ar.length:Nat):Int))<;>intro h<;>cases h
   · exact .inr o!
 · exact .inl o!
theorem TN {q:ay} {l:List aM} {t:Int} (h:cL q l t=0):aO q l=0∧cE t=true:=by
 rw[cL,iV] at h
 by_cases a:aO q l=0
 · rw[decide_eq_true a] at h
   refine ⟨a,?_⟩
   cases b:cE t with
   | true=>rfl
   | false=>rw[b] at h;cases h
 · rw[decide_eq_false a] at h
   exact absurd h a
theorem mu {q:ay} {l:List aM} {t:Int} (h:cL q l t=0) (m:eS q l=false):(∀i,i<l.length→0≤(l.g i).aN∧(l.g i).aN<(q.ar.length:Int))∧l.length≤12∧q.ar.length≤8:=by
 obtain ⟨a,b,c⟩:=fR (TN h).1
 rcases NI m with d | d
 · exact ⟨a,d,c⟩
 · omega
theorem aaR {q:ay} {l:List aM} (m:eS q l=false) (h:bf q l=0):l.length≤12:=by
 rw[iV] at h
 obtain ⟨a,b,c⟩:=fR h
 rcases NI m with d | d
 · exact d
 · omega
def Au:Code:=(Try.f6.body).getD .skip
theorem xV:Try.f6.body=some Au:=by kernel_rfl
def cj (q:ay) (l_:List aM) (t:Int):List Span×Int:=(bif (!decide ((cL q l_ t)=0)) then ([],(cL q l_ t)) else ((eW q l_ t),0))
theorem Hd {d:Nat} {h:aw} {dB:AV} (q:ay) (l_:List aM) (t:Int) (eP:aA.ok h q) (eY:aQ h dB l_) (jP:eS q l_=false) (bH:Tidy h):∃z0 hk,cJ (d+14) (.fn 6) [(AV.agg [(AV.str q.name),(Zi q.af),(Zi q.ab),(Zi q.aC),(Zi q.aD),(Zi q.bad),q.ao]),dB,(Zi t)] h= .ret (AV.tuple [z0,(Zi (cj q l_ t).2)]) hk∧Grow h hk∧(aQ hk z0 ((cj q l_ t).1)∧bu h hk z0 (cj q l_ t).1):=by
 have oP:=eY.small
 have fW:=eP.2.small
 obtain ⟨h1,bD,bN,fX,aH,bZ⟩:=gu bH (aY.cells [(AV.str q.name),(Zi q.af),(Zi q.ab),(Zi q.aC),(Zi q.aD),(Zi q.bad),q.ao] 26 false)
 have bk:Has h h1:=bZ
 have k2:=Ci (d:=d+1) q l_ t (aA.mono bk eP) (eY.has bk) bN
 rcases Bool.eq_false_or_eq_true (!decide ((cL q l_ t)=0)) with f0 | f0
 · have ir:=AG f0
   have e:cj q l_ t=([],(cL q l_ t)):=by simp only[cj,f0,aj,ai]
   rw[e]
   have nV:bu h h1 AV.aK ([]:List Span):= .inl ⟨.inl rfl,rfl⟩
   exact ⟨AV.aK,gH rfl (a_ Try.func6 xV rfl (.inr rfl) (pk (d+13) _ _ h _ h1 (NN bD (fun i=>(Pt i))<|CN 2<|MM (aB 26 0 (AV.agg [(AV.str q.name),(Zi q.af),(Zi q.ab),(Zi q.aC),(Zi q.aD),(Zi q.bad),q.ao]) aH k!)<|CN 2<|EE k2<|CN 2<|VV (eh 31 false true .i64 (cL q l_ t) 0)<|BB f0<|CN 3<|ZZ) k!) k!) bH ⟨bN,bk,by omega⟩ (P:=fun hh=>(aQ hh AV.aK ([]:List Span)∧bu h hh AV.aK ([]:List Span))) ⟨bu.rows nV (by first | omega | decide) (fun y hy=>by cases hy),nV⟩ fun v=>⟨bu.xa nV (kZ v (by simp)),bu.s_ nV (kZ v (by simp))⟩⟩
 · have ir:=AH f0
   obtain ⟨z4,h6,Ar,kG,fz5,adL⟩:=JY (d:=d) q l_ t (aA.mono bk eP) (eY.has bk) (by first | omega | exact (mu (by assumption) jP).1 | exact (mu (by assumption) jP).2.1 | exact (mu (by assumption) jP).2.2) (by first | omega | exact (mu (by assumption) jP).1 | exact (mu (by assumption) jP).2.1 | exact (mu (by assumption) jP).2.2) (by first | omega | exact (mu (by assumption) jP).1 | exact (mu (by assumption) jP).2.1 | exact (mu (by assumption) jP).2.2) bN
   have mf:=kG.y
   have adt:h1.nx≤h6.nx:=kG.n
   have mg:Has h h6:=bk.trans kG.a
   have adM:=fz5.small
   have e:cj q l_ t=((eW q l_ t),0):=by simp only[cj,f0,aj,ai]
   rw[e]
   have nV:bu h h6 z4 (eW q l_ t):=bu.le (h0:=h) adL o!
   exact ⟨z4,gH rfl (a_ Try.func6 xV rfl (.inr rfl) (pk (d+13) _ _ h _ h6 (NN bD (fun i=>(Pt i))<|CN 2<|MM (aB 26 0 (AV.agg [(AV.str q.name),(Zi q.af),(Zi q.ab),(Zi q.aC),(Zi q.aD),(Zi q.bad),q.ao]) aH k!)<|CN 2<|EE k2<|CN 2<|VV (eh 31 false true .i64 (cL q l_ t) 0)<|BM f0 (aB 26 0 (AV.agg [(AV.str q.name),(Zi q.af),(Zi q.ab),(Zi q.aC),(Zi q.aD),(Zi q.bad),q.ao]) aH k!)<|CN 2<|EE Ar<|CN 2<|ZZ) k!) k!) bH ⟨mf,mg,by omega⟩ (P:=fun hh=>(aQ hh z4 (eW q l_ t)∧bu h hh z4 (eW q l_ t))) ⟨bu.rows nV (by first | omega | decide) (fz5.Pp),nV⟩ fun v=>⟨bu.xa nV (kZ v (by simp)),bu.s_ nV (kZ v (by simp))⟩⟩
def L7:Code:=(Try.f3.body).getD .skip
theorem nZ:Try.f3.body=some L7:=by kernel_rfl
def kU (q:ay) (l_:List aM) (t:Int) (period:Int):Bool:=(bif (eS q l_) then true else (bif (!decide ((cj q l_ t).2=((b7 q l_ t).2))) then false else (bif (!(gO (cj q l_ t).1 (b7 q l_ t).1)) then false else (bif (!decide ((ca q l_).2.2=((cf q l_).2.2))) then false else (bif (!(hF (ca q l_).1 (cf q l_).1)) then false else (bif (!(hF (ca q l_).2.1 (cf q l_).2.1)) then false else (bif (decide ((c_ q period t).1=((cY q period t).1))) then (bif (decide ((c_ q period t).2=((cY q period t).2))) then true else false) else false)))))))
theorem WU {d:Nat} {h:aw} {dB:AV} (q:ay) (l_:List aM) (t:Int) (period:Int) (eP:aA.ok h q) (eY:aQ h dB l_) (bH:Tidy h):cJ (d+16) (.fn 3) [(AV.agg [(AV.str q.name),(Zi q.af),(Zi q.ab),(Zi q.aC),(Zi q.aD),(Zi q.bad),q.ao]),dB,(Zi t),(Zi period)] h= .ret (AV.bool (kU q l_ t period)) h:=by
 have oP:=eY.small
 have fW:=eP.2.small
 obtain ⟨h1,bD,bN,fX,aH,bZ⟩:=gu bH (aY.cells [(AV.str q.name),(Zi q.af),(Zi q.ab),(Zi q.aC),(Zi q.aD),(Zi q.bad),q.ao] 26 false)
 have bk:Has h h1:=bZ
 have k2:=RQ (d:=d+14) q l_ (aA.mono bk eP) (eY.has bk) bN
 rcases Bool.eq_false_or_eq_true (eS q l_) with f0 | f0
 · have k4:=NH (d:=d+14) (h:=h1)
   have e:kU q l_ t period=true:=by simp only[kU,f0,aj,ai]
   rw[e]
   exact az rfl (a_ Try.func3 nZ rfl (.inr rfl) (pk (d+15) _ _ h _ h1 (NN bD (fun i=>(Pt i))<|CC<|MM (aB 26 0 (AV.agg [(AV.str q.name),(Zi q.af),(Zi q.ab),(Zi q.aC),(Zi q.aD),(Zi q.bad),q.ao]) aH k!)<|CC<|EE k2<|BB f0<|EE k4<|CC<|ZZ) k!) k!) bk rfl
 · obtain ⟨z4,h6,Ar,kG,⟨fz5,adL⟩⟩:=Hd (d:=d+1) q l_ t (aA.mono bk eP) (eY.has bk) (by first | omega | assumption) bN
   have mf:=kG.y
   have adt:h1.nx≤h6.nx:=kG.n
   have mg:Has h h6:=bk.trans kG.a
   have adM:=fz5.small
   obtain ⟨z7,h9,Di,ke,⟨fz8,acv⟩⟩:=Gp (d:=d+10) q l_ t (aA.mono mg eP) (eY.has mg) mf
   have uw:=ke.y
   have Zg:h6.nx≤h9.nx:=ke.n
   have s6:Has h h9:=mg.trans ke.a
   have NJ:Has h6 h9:=ke.a
   have acw:=fz8.small
   rcases Bool.eq_false_or_eq_true (!decide ((cj q l_ t).2=((b7 q l_ t).2))) with f1 | f1
   · have iK:=AG f1
     have e:kU q l_ t period=false:=by simp only[kU,f0,f1,aj,ai]
     rw[e]
     exact az rfl (a_ Try.func3 nZ rfl (.inr rfl) (pk (d+15) _ _ h _ h9 (NN bD (fun i=>(Pt i))<|CC<|MM (aB 26 0 (AV.agg [(AV.str q.name),(Zi q.af),(Zi q.ab),(Zi q.aC),(Zi q.aD),(Zi q.bad),q.ao]) aH k!)<|CC<|EE k2<|BM f0 (aB 26 0 (AV.agg [(AV.str q.name),(Zi q.af),(Zi q.ab),(Zi q.aC),(Zi q.aD),(Zi q.bad),q.ao]) aH k!)<|CN 2<|EE Ar<|CN 5<|MM (aB 26 0 (AV.agg [(AV.str q.name),(Zi q.af),(Zi q.ab),(Zi q.aC),(Zi q.aD),(Zi q.bad),q.ao]) (kG.a _ _ aH) k!)<|CN 2<|EE Di<|CN 7<|VV (eh 31 false false .i64 (cj q l_ t).2 (b7 q l_ t).2)<|CC<|BB f1<|BB f1<|BB f1<|BV f1 (nR true f1)<|TT<|CC<|ZZ) k!) k!) s6 rfl
   · have iK:=AH f1
     have BL:=OA (d:=d+14) (cj q l_ t).1 (b7 q l_ t).1 (fz5.has NJ) fz8 uw
     rcases Bool.eq_false_or_eq_true (!(gO (cj q l_ t).1 (b7 q l_ t).1)) with f2 | f2
     · have e:kU q l_ t period=false:=by simp only[kU,f0,f1,f2,aj,ai]
       rw[e]
       exact az rfl (a_ Try.func3 nZ rfl (.inr rfl) (pk (d+15) _ _ h _ h9 (NN bD (fun i=>(Pt i))<|CC<|MM (aB 26 0 (AV.agg [(AV.str q.name),(Zi q.af),(Zi q.ab),(Zi q.aC),(Zi q.aD),(Zi q.bad),q.ao]) aH k!)<|CC<|EE k2<|BM f0 (aB 26 0 (AV.agg [(AV.str q.name),(Zi q.af),(Zi q.ab),(Zi q.aC),(Zi q.aD),(Zi q.bad),q.ao]) aH k!)<|CN 2<|EE Ar<|CN 5<|MM (aB 26 0 (AV.agg [(AV.str q.name),(Zi q.af),(Zi q.ab),(Zi q.aC),(Zi q.aD),(Zi q.bad),q.ao]) (kG.a _ _ aH) k!)<|CN 2<|EE Di<|CN 7<|VV (eh 31 false false .i64 (cj q l_ t).2 (b7 q l_ t).2)<|CC<|BC f1<|BC f1<|BB f1<|EE BL<|BC f1<|VV (aR (a:=some (AV.bool true)) (b:=some (AV.bool (!(gO (cj q l_ t).1 (b7 q l_ t).1)))) f1)<|BC f2<|ZZ) k!) k!) s6 rfl
     · obtain ⟨z14,z15,uT,EC,jV,TO,TP⟩:=G_ (d:=d+2) uw (aA.mono s6 eP) (eY.has s6) (aaR (by assumption))
       have tc:=jV.y
       have I_:h9.nx≤uT.nx:=jV.n
       have oT:Has h uT:=s6.trans jV.a
       have TQ:Has h6 uT:=NJ.trans jV.a
       have TR:Has h9 uT:=jV.a
       have agc:=TO.small
       have agd:=TP.small
       obtain ⟨z17,z18,Hn,ED,rP,TU,TV⟩:=Hb (d:=d+10) tc (aA.mono oT eP) (eY.has oT)
       have Ey:=rP.y
       have ag0:uT.nx≤Hn.nx:=rP.n
       have va:Has h Hn:=oT.trans rP.a
       have adN:Has h6 Hn:=TQ.trans rP.a
       have adO:Has h9 Hn:=TR.trans rP.a
       have EF:Has uT Hn:=rP.a
       have age:=TU.small
       have agf:=TV.small
       rcases Bool.eq_false_or_eq_true (!decide ((ca q l_).2.2=((cf q l_).2.2))) with f3 | f3
       · have l7:=AG f3
         have e:kU q l_ t period=false:=by simp only[kU,f0,f1,f2,f3,aj,ai]
         rw[e]
         exact az rfl (a_ Try.func3 nZ rfl (.inr rfl) (pk (d+15) _ _ h _ Hn (NN bD (fun i=>(Pt i))<|CC<|MM (aB 26 0 (AV.agg [(AV.str q.name),(Zi q.af),(Zi q.ab),(Zi q.aC),(Zi q.aD),(Zi q.bad),q.ao]) aH k!)<|CC<|EE k2<|BM f0 (aB 26 0 (AV.agg [(AV.str q.name),(Zi q.af),(Zi q.ab),(Zi q.aC),(Zi q.aD),(Zi q.bad),q.ao]) aH k!)<|CN 2<|EE Ar<|CN 5<|MM (aB 26 0 (AV.agg [(AV.str q.name),(Zi q.af),(Zi q.ab),(Zi q.aC),(Zi q.aD),(Zi q.bad),q.ao]) (kG.a _ _ aH) k!)<|CN 2<|EE Di<|CN 7<|VV (eh 31 false false .i64 (cj q l_ t).2 (b7 q l_ t).2)<|CC<|BC f1<|BC f1<|BB f1<|EE BL<|BC f1<|VV (aR (a:=some (AV.bool true)) (b:=some (AV.bool (!(gO (cj q l_ t).1 (b7 q l_ t).1)))) f1)<|BM f2 (aB 26 0 (AV.agg [(AV.str q.name),(Zi q.af),(Zi q.ab),(Zi q.aC),(Zi q.aD),(Zi q.bad),q.ao]) (ke.a _ _ (kG.a _ _ aH)) k!)<|CC<|EE EC<|CN 7<|MM (aB 26 0 (AV.agg [(AV.str q.name),(Zi q.af),(Zi q.ab),(Zi q.aC),(Zi q.aD),(Zi q.bad),q.ao]) (jV.a _ _ (ke.a _ _ (kG.a _ _ aH))) k!)<|CC<|EE ED<|CN 9<|VV (eh 31 false false .i64 (ca q l_).2.2 (cf q l_).2.2)<|CC<|BB f3<|BB f3<|BB f3<|BV f3 (nR true f3)<|CC<|TT<|TT<|TT<|TT<|CC<|TT<|CC<|ZZ) k!) k!) va rfl
       · have l7:=AH f3
         have VW:=IP (d:=d+14) (ca q l_).1 (cf q l_).1 (TO.has EF) TU Ey
         rcases Bool.eq_false_or_eq_true (!(hF (ca q l_).1 (cf q l_).1)) with f4 | f4
         · have e:kU q l_ t period=false:=by simp only[kU,f0,f1,f2,f3,f4,aj,ai]
           rw[e]
           exact az rfl (a_ Try.func3 nZ rfl (.inr rfl) (pk (d+15) _ _ h _ Hn (NN bD (fun i=>(Pt i))<|CC<|MM (aB 26 0 (AV.agg [(AV.str q.name),(Zi q.af),(Zi q.ab),(Zi q.aC),(Zi q.aD),(Zi q.bad),q.ao]) aH k!)<|CC<|EE k2<|BM f0 (aB 26 0 (AV.agg [(AV.str q.name),(Zi q.af),(Zi q.ab),(Zi q.aC),(Zi q.aD),(Zi q.bad),q.ao]) aH k!)<|CN 2<|EE Ar<|CN 5<|MM (aB 26 0 (AV.agg [(AV.str q.name),(Zi q.af),(Zi q.ab),(Zi q.aC),(Zi q.aD),(Zi q.bad),q.ao]) (kG.a _ _ aH) k!)<|CN 2<|EE Di<|CN 7<|VV (eh 31 false false .i64 (cj q l_ t).2 (b7 q l_ t).2)<|CC<|BC f1<|BC f1<|BB f1<|EE BL<|BC f1<|VV (aR (a:=some (AV.bool true)) (b:=some (AV.bool (!(gO (cj q l_ t).1 (b7 q l_ t).1)))) f1)<|BM f2 (aB 26 0 (AV.agg [(AV.str q.name),(Zi q.af),(Zi q.ab),(Zi q.aC),(Zi q.aD),(Zi q.bad),q.ao]) (ke.a _ _ (kG.a _ _ aH)) k!)<|CC<|EE EC<|CN 7<|MM (aB 26 0 (AV.agg [(AV.str q.name),(Zi q.af),(Zi q.ab),(Zi q.aC),(Zi q.aD),(Zi q.bad),q.ao]) (jV.a _ _ (ke.a _ _ (kG.a _ _ aH))) k!)<|CC<|EE ED<|CN 9<|VV (eh 31 false false .i64 (ca q l_).2.2 (cf q l_).2.2)<|CC<|BC f3<|BC f3<|BB f3<|EE VW<|BC f3<|VV (aR (a:=some (AV.bool true)) (b:=some (AV.bool (!(hF (ca q l_).1 (cf q l_).1)))) f3)<|CC<|BB f4<|BB f4<|BB f4<|BV f4 (nR true f4)<|TT<|CC<|ZZ) k!) k!) va rfl
         · have k22:=IP (d:=d+14) (ca q l_).2.1 (cf q l_).2.1 (TP.has EF) TV Ey
           rcases Bool.eq_false_or_eq_true (!(hF (ca q l_).2.1 (cf q l_).2.1)) with f5 | f5
           · have e:kU q l_ t period=false:=by simp only[kU,f0,f1,f2,f3,f4,f5,aj,ai]
             rw[e]
             exact az rfl (a_ Try.func3 nZ rfl (.inr rfl) (pk (d+15) _ _ h _ Hn (NN bD (fun i=>(Pt i))<|CC<|MM (aB 26 0 (AV.agg [(AV.str q.name),(Zi q.af),(Zi q.ab),(Zi q.aC),(Zi q.aD),(Zi q.bad),q.ao]) aH k!)<|CC<|EE k2<|BM f0 (aB 26 0 (AV.agg [(AV.str q.name),(Zi q.af),(Zi q.ab),(Zi q.aC),(Zi q.aD),(Zi q.bad),q.ao]) aH k!)<|CN 2<|EE Ar<|CN 5<|MM (aB 26 0 (AV.agg [(AV.str q.name),(Zi q.af),(Zi q.ab),(Zi q.aC),(Zi q.aD),(Zi q.bad),q.ao]) (kG.a _ _ aH) k!)<|CN 2<|EE Di<|CN 7<|VV (eh 31 false false .i64 (cj q l_ t).2 (b7 q l_ t).2)<|CC<|BC f1<|BC f1<|BB f1<|EE BL<|BC f1<|VV (aR (a:=some (AV.bool true)) (b:=some (AV.bool (!(gO (cj q l_ t).1 (b7 q l_ t).1)))) f1)<|BM f2 (aB 26 0 (AV.agg [(AV.str q.name),(Zi q.af),(Zi q.ab),(Zi q.aC),(Zi q.aD),(Zi q.bad),q.ao]) (ke.a _ _ (kG.a _ _ aH)) k!)<|CC<|EE EC<|CN 7<|MM (aB 26 0 (AV.agg [(AV.str q.name),(Zi q.af),(Zi q.ab),(Zi q.aC),(Zi q.aD),(Zi q.bad),q.ao]) (jV.a _ _ (ke.a _ _ (kG.a _ _ aH))) k!)<|CC<|EE ED<|CN 9<|VV (eh 31 false false .i64 (ca q l_).2.2 (cf q l_).2.2)<|CC<|BC f3<|BC f3<|BB f3<|EE VW<|BC f3<|VV (aR (a:=some (AV.bool true)) (b:=some (AV.bool (!(hF (ca q l_).1 (cf q l_).1)))) f3)<|CC<|BC f4<|BC f4<|BB f4<|EE k22<|BC f4<|VV (aR (a:=some (AV.bool true)) (b:=some (AV.bool (!(hF (ca q l_).2.1 (cf q l_).2.1)))) f4)<|BC f5<|ZZ) k!) k!) va rfl
           · have k24:=Lh (d:=d+5) q period t (aA.mono va eP) Ey
             have k25:=K2 (d:=d+11) q period t (aA.mono va eP) Ey
             rcases Bool.eq_false_or_eq_true (decide ((c_ q period t).1=((cY q period t).1))) with f6 | f6
             · have RS:=of_decide_eq_true f6
               rcases Bool.eq_false_or_eq_true (decide ((c_ q period t).2=((cY q period t).2))) with f7 | f7
               · have RU:=of_decide_eq_true f7
                 have k28:=NH (d:=d+14) (h:=Hn)
                 have e:kU q l_ t period=true:=by simp only[kU,f0,f1,f2,f3,f4,f5,f6,f7,aj,ai]
                 rw[e]
                 exact az rfl (a_ Try.func3 nZ rfl (.inr rfl) (pk (d+15) _ _ h _ Hn (NN bD (fun i=>(Pt i))<|CC<|MM (aB 26 0 (AV.agg [(AV.str q.name),(Zi q.af),(Zi q.ab),(Zi q.aC),(Zi q.aD),(Zi q.bad),q.ao]) aH k!)<|CC<|EE k2<|BM f0 (aB 26 0 (AV.agg [(AV.str q.name),(Zi q.af),(Zi q.ab),(Zi q.aC),(Zi q.aD),(Zi q.bad),q.ao]) aH k!)<|CN 2<|EE Ar<|CN 5<|MM (aB 26 0 (AV.agg [(AV.str q.name),(Zi q.af),(Zi q.ab),(Zi q.aC),(Zi q.aD),(Zi q.bad),q.ao]) (kG.a _ _ aH) k!)<|CN 2<|EE Di<|CN 7<|VV (eh 31 false false .i64 (cj q l_ t).2 (b7 q l_ t).2)<|CC<|BC f1<|BC f1<|BB f1<|EE BL<|BC f1<|VV (aR (a:=some (AV.bool true)) (b:=some (AV.bool (!(gO (cj q l_ t).1 (b7 q l_ t).1)))) f1)<|BM f2 (aB 26 0 (AV.agg [(AV.str q.name),(Zi q.af),(Zi q.ab),(Zi q.aC),(Zi q.aD),(Zi q.bad),q.ao]) (ke.a _ _ (kG.a _ _ aH)) k!)<|CC<|EE EC<|CN 7<|MM (aB 26 0 (AV.agg [(AV.str q.name),(Zi q.af),(Zi q.ab),(Zi q.aC),(Zi q.aD),(Zi q.bad),q.ao]) (jV.a _ _ (ke.a _ _ (kG.a _ _ aH))) k!)<|CC<|EE ED<|CN 9<|VV (eh 31 false false .i64 (ca q l_).2.2 (cf q l_).2.2)<|CC<|BC f3<|BC f3<|BB f3<|EE VW<|BC f3<|VV (aR (a:=some (AV.bool true)) (b:=some (AV.bool (!(hF (ca q l_).1 (cf q l_).1)))) f3)<|CC<|BC f4<|BC f4<|BB f4<|EE k22<|BC f4<|VV (aR (a:=some (AV.bool true)) (b:=some (AV.bool (!(hF (ca q l_).2.1 (cf q l_).2.1)))) f4)<|BM f5 (aB 26 0 (AV.agg [(AV.str q.name),(Zi q.af),(Zi q.ab),(Zi q.aC),(Zi q.aD),(Zi q.bad),q.ao]) (rP.a _ _ (jV.a _ _ (ke.a _ _ (kG.a _ _ aH)))) k!)<|CN 2<|EE k24<|CN 5<|MM (aB 26 0 (AV.agg [(AV.str q.name),(Zi q.af),(Zi q.ab),(Zi q.aC),(Zi q.aD),(Zi q.bad),q.ao]) (rP.a _ _ (jV.a _ _ (ke.a _ _ (kG.a _ _ aH)))) k!)<|CN 2<|EE k25<|CN 7<|VV (fh 3 false false .i64 (c_ q period t).1 (cY q period t).1)<|CC<|BC f6<|BC f6<|BV f6 (fh 31 false false .i64 (c_ q period t).2 (cY q period t).2)<|VV (jA (decide ((c_ q period t).2=((cY q period t).2))) false f6)<|CC<|BB f7<|EE k28<|VV (jA true false f7)<|CC<|ZZ) k!) k!) va rfl
               · have RU:=of_decide_eq_false f7
                 have e:kU q l_ t period=false:=by simp only[kU,f0,f1,f2,f3,f4,f5,f6,f7,aj,ai]
                 rw[e]
                 exact az rfl (a_ Try.func3 nZ rfl (.inr rfl) (pk (d+15) _ _ h _ Hn (NN bD (fun i=>(Pt i))<|CC<|MM (aB 26 0 (AV.agg [(AV.str q.name),(Zi q.af),(Zi q.ab),(Zi q.aC),(Zi q.aD),(Zi q.bad),q.ao]) aH k!)<|CC<|EE k2<|BM f0 (aB 26 0 (AV.agg [(AV.str q.name),(Zi q.af),(Zi q.ab),(Zi q.aC),(Zi q.aD),(Zi q.bad),q.ao]) aH k!)<|CN 2<|EE Ar<|CN 5<|MM (aB 26 0 (AV.agg [(AV.str q.name),(Zi q.af),(Zi q.ab),(Zi q.aC),(Zi q.aD),(Zi q.bad),q.ao]) (kG.a _ _ aH) k!)<|CN 2<|EE Di<|CN 7<|VV (eh 31 false false .i64 (cj q l_ t).2 (b7 q l_ t).2)<|CC<|BC f1<|BC f1<|BB f1<|EE BL<|BC f1<|VV (aR (a:=some (AV.bool true)) (b:=some (AV.bool (!(gO (cj q l_ t).1 (b7 q l_ t).1)))) f1)<|BM f2 (aB 26 0 (AV.agg [(AV.str q.name),(Zi q.af),(Zi q.ab),(Zi q.aC),(Zi q.aD),(Zi q.bad),q.ao]) (ke.a _ _ (kG.a _ _ aH)) k!)<|CC<|EE EC<|CN 7<|MM (aB 26 0 (AV.agg [(AV.str q.name),(Zi q.af),(Zi q.ab),(Zi q.aC),(Zi q.aD),(Zi q.bad),q.ao]) (jV.a _ _ (ke.a _ _ (kG.a _ _ aH))) k!)<|CC<|EE ED<|CN 9<|VV (eh 31 false false .i64 (ca q l_).2.2 (cf q l_).2.2)<|CC<|BC f3<|BC f3<|BB f3<|EE VW<|BC f3<|VV (aR (a:=some (AV.bool true)) (b:=some (AV.bool (!(hF (ca q l_).1 (cf q l_).1)))) f3)<|CC<|BC f4<|BC f4<|BB f4<|EE k22<|BC f4<|VV (aR (a:=some (AV.bool true)) (b:=some (AV.bool (!(hF (ca q l_).2.1 (cf q l_).2.1)))) f4)<|BM f5 (aB 26 0 (AV.agg [(AV.str q.name),(Zi q.af),(Zi q.ab),(Zi q.aC),(Zi q.aD),(Zi q.bad),q.ao]) (rP.a _ _ (jV.a _ _ (ke.a _ _ (kG.a _ _ aH)))) k!)<|CN 2<|EE k24<|CN 5<|MM (aB 26 0 (AV.agg [(AV.str q.name),(Zi q.af),(Zi q.ab),(Zi q.aC),(Zi q.aD),(Zi q.bad),q.ao]) (rP.a _ _ (jV.a _ _ (ke.a _ _ (kG.a _ _ aH)))) k!)<|CN 2<|EE k25<|CN 7<|VV (fh 3 false false .i64 (c_ q period t).1 (cY q period t).1)<|CC<|BC f6<|BC f6<|BV f6 (fh 31 false false .i64 (c_ q period t).2 (cY q period t).2)<|VV (jA (decide ((c_ q period t).2=((cY q period t).2))) false f6)<|CC<|BV f7 (pN false f7)<|CC<|ZZ) k!) k!) va rfl
             · have RS:=of_decide_eq_false f6
               have e:kU q l_ t period=false:=by simp only[kU,f0,f1,f2,f3,f4,f5,f6,aj,ai]
               rw[e]
               exact az rfl (a_ Try.func3 nZ rfl (.inr rfl) (pk (d+15) _ _ h _ Hn (NN bD (fun i=>(Pt i))<|CC<|MM (aB 26 0 (AV.agg [(AV.str q.name),(Zi q.af),(Zi q.ab),(Zi q.aC),(Zi q.aD),(Zi q.bad),q.ao]) aH k!)<|CC<|EE k2<|BM f0 (aB 26 0 (AV.agg [(AV.str q.name),(Zi q.af),(Zi q.ab),(Zi q.aC),(Zi q.aD),(Zi q.bad),q.ao]) aH k!)<|CN 2<|EE Ar<|CN 5<|MM (aB 26 0 (AV.agg [(AV.str q.name),(Zi q.af),(Zi q.ab),(Zi q.aC),(Zi q.aD),(Zi q.bad),q.ao]) (kG.a _ _ aH) k!)<|CN 2<|EE Di<|CN 7<|VV (eh 31 false false .i64 (cj q l_ t).2 (b7 q l_ t).2)<|CC<|BC f1<|BC f1<|BB f1<|EE BL<|BC f1<|VV (aR (a:=some (AV.bool true)) (b:=some (AV.bool (!(gO (cj q l_ t).1 (b7 q l_ t).1)))) f1)<|BM f2 (aB 26 0 (AV.agg [(AV.str q.name),(Zi q.af),(Zi q.ab),(Zi q.aC),(Zi q.aD),(Zi q.bad),q.ao]) (ke.a _ _ (kG.a _ _ aH)) k!)<|CC<|EE EC<|CN 7<|MM (aB 26 0 (AV.agg [(AV.str q.name),(Zi q.af),(Zi q.ab),(Zi q.aC),(Zi q.aD),(Zi q.bad),q.ao]) (jV.a _ _ (ke.a _ _ (kG.a _ _ aH))) k!)<|CC<|EE ED<|CN 9<|VV (eh 31 false false .i64 (ca q l_).2.2 (cf q l_).2.2)<|CC<|BC f3<|BC f3<|BB f3<|EE VW<|BC f3<|VV (aR (a:=some (AV.bool true)) (b:=some (AV.bool (!(hF (ca q l_).1 (cf q l_).1)))) f3)<|CC<|BC f4<|BC f4<|BB f4<|EE k22<|BC f4<|VV (aR (a:=some (AV.bool true)) (b:=some (AV.bool (!(hF (ca q l_).2.1 (cf q l_).2.1)))) f4)<|BM f5 (aB 26 0 (AV.agg [(AV.str q.name),(Zi q.af),(Zi q.ab),(Zi q.aC),(Zi q.aD),(Zi q.bad),q.ao]) (rP.a _ _ (jV.a _ _ (ke.a _ _ (kG.a _ _ aH)))) k!)<|CN 2<|EE k24<|CN 5<|MM (aB 26 0 (AV.agg [(AV.str q.name),(Zi q.af),(Zi q.ab),(Zi q.aC),(Zi q.aD),(Zi q.bad),q.ao]) (rP.a _ _ (jV.a _ _ (ke.a _ _ (kG.a _ _ aH)))) k!)<|CN 2<|EE k25<|CN 7<|VV (fh 3 false false .i64 (c_ q period t).1 (cY q period t).1)<|CC<|BB f6<|BB f6<|BV f6 (pN false f6)<|CC<|FF<|CN 2<|ZZ) k!) k!) va rfl
theorem JZ (q:ay) (l:List aM) (t:Int):cj q l t=b7 q l t:=by
 rw[cj,b7,cL,iV,AL]
 by_cases a:aO q l=0
 · rw[decide_eq_true a]
   cases b:cT t with
   | false=>rfl
   | true=>
     obtain ⟨t0,t1⟩:=Gu b
     show (eW q l t,(0:Int))=(eT q l t,0)
     rw[JR (Ej a) t0 t1]
 · rw[decide_eq_false a]
   show (bif !decide (aO q l=0) then (([],aO q l):List Span×Int) else _)=_
   rw[decide_eq_false a];rfl
theorem L8 (a:List Span):gO a a=true:=by
 have h:∀k i,jK a a k i=none:=by
  intro k
  induction k with
  | zero=>intro i;rfl
  | succ k ih=>
    intro i
    have e:Span.eq (a.g i) (a.g i)=true:=by rw[Span.eq];simp
    rw[jK,e];exact ih _
 rw[gO,decide_eq_true rfl,h];rfl
theorem EG (a:List Int):hF a a=true:=by
 have h:∀k i,lG a a k i=none:=by
  intro k
  induction k with
  | zero=>intro i;rfl
  | succ k ih=>intro i;rw[lG,decide_eq_true rfl];exact ih _
 rw[hF,decide_eq_true rfl,h];rfl
theorem TW (q:ay) (l:List aM) (t p:Int):kU q l t p=true:=by
 rw[kU,JZ,JX,OS,L8,EG,EG,decide_eq_true rfl,decide_eq_true rfl,decide_eq_true rfl,decide_eq_true rfl]
 cases eS q l<;>rfl
open Go.ChangeShapes Go.WideShapes Go.RowKit
structure Gx (φ φ':Ph) (h h':aw) (w:World):Prop where
 ok:OK env φ' h' w
 le:φ.le φ'
 ro:wR h'
 has:Has h h'
 nx:h.nx≤h'.nx
 tidy:Tidy h'
theorem Gx.refl {φ:Ph} {h:aw} {w:World} (ok:OK env φ h w) (ro:wR h) (y:Tidy h):Gx φ φ h h w:=⟨ok,Ph.le_refl _,ro,Has.refl _,Nat.le_refl _,y⟩
theorem Gx.trans {a b c:Ph} {h1 h2 h3:aw} {w:World} (x:Gx a b h1 h2 w) (y:Gx b c h2 h3 w):Gx a c h1 h3 w:=⟨y.ok,Ph.le_trans x.le y.le,y.ro,x.has.trans y.has,Nat.le_trans x.nx y.nx,y.tidy⟩
section
variable {H:Type} (enc:TypeId×Value→H) (w:World) (base:Nat) (spare:Nat→Bool) (held:Bool)
def Small (t:TypeId) (d:DataW H):Prop:=(DataW.weights env.P t d).all (· ≤reachBytes)=true
theorem Small.all {e:TypeId}:∀{l:List (DataW H)},(DataW.weightsAll env.P e l).all (· ≤reachBytes)=true→∀d∈l,Small e d
 | [],_,d,hd=>by cases hd
 | x::l,h,d,hd=>by
   rw[DataW.weightsAll,List.all_append,Bool.and_eq_true] at h
   rcases List.mem_cons.1 hd with rfl | hd
   · exact h.1
   · exact Small.all h.2 d hd
theorem Small.struct {t:TypeId} {fs:Array Field} {parts:List (DataW H)} (ht:env.P.underlying t=some (.struct fs)) (h:Small t (.agg parts)):(DataW.weightsEach env.P (fs.toList.map (·.type)) parts).all (· ≤reachBytes)=true:=by
 unfold Small at h
 rw[DataW.weights,ht] at h
 exact h
theorem Small.cz {t:TypeId} {ts:List TypeId} {d:DataW H} {ds:List (DataW H)} (h:(DataW.weightsEach env.P (t::ts) (d::ds)).all (· ≤reachBytes)=true):Small t d∧(DataW.weightsEach env.P ts ds).all (· ≤reachBytes)=true:=by
 rw[DataW.weightsEach,List.all_append,Bool.and_eq_true] at h
 exact h
theorem NK {n:Nat} (h:n≤reachBytes):n<2^60:=Nat.lt_of_le_of_lt h (by unfold reachBytes;decide)
def ve {D:Type} (t:TypeId) (sz:Nat) (c:D→List AV) (ok:aw→D→Prop):Prop:=
 ∀(φ:Ph) (h:aw),OK env φ h w→wR h→Tidy h→∀(cs:List Value) (y:DataW H×List MemPlace) (n:Nat),cs.length=sz→Small t y.1→DataW.trod enc env.P w base spare held n t cs=some y→
  ∃φ' h' x,Gx φ φ' h h' w∧LR φ' (c x) cs∧ok h' x
variable {enc w base spare held}
theorem gC {k:IntKind} {t:TypeId} (ht:env.P.underlying t=some (.int k)):ve enc w base spare held t 1 (fun x:Int=> [.int k x]) (fun _ _=>True):=fun φ h ok ro y cs z n _ hw hv=>by
 obtain ⟨m,rfl,_,_⟩:=DataW.trod_int ht hv
 exact ⟨φ,h,m,Gx.refl ok ro y,LR.cons (VR.int k m) (LR.nil _),trivial⟩
theorem EH {t:TypeId} (ht:env.P.underlying t=some .string):ve enc w base spare held t 1 (fun x:List UInt8=> [.str x]) (fun _ x=>x.length<2^60):=fun φ h ok ro y cs z n _ hw hv=>by
 obtain ⟨s,rfl,rfl,hs⟩:=DataW.trod_string ht hv
 refine ⟨φ,h,s.data.toList,Gx.refl ok ro y,LR.cons (VR.str s) (LR.nil _),?_⟩
 unfold Small at hw
 rw[DataW.weights,List.all_cons,Bool.and_eq_true] at hw
 exact NK (of_decide_eq_true hw.1)
theorem zY {α:Type} [aA α] {t:TypeId} (ht:env.P.underlying t=some (.slice (aA.e α))) (hs:env.P.cellsOf (aA.e α)=aA.n α) (hby:0<env.P.bytesOf (aA.e α)) (hm:∀(h:aw) (x:α) m,aA.ok h x→AV.map m ∉ aA.c x)
 (he:ve enc w base spare held (aA.e α) (aA.n α) (aA.c (α:=α)) aA.ok):ve enc w base spare held t 1 (fun x:AV×List α=> [x.1]) (fun h x=>aQ h x.1 x.2):=fun φ h ok ro y cs z fuel _ hw hv=>by
 have Ug:=aA.pos (α:=α)
 rcases DataW.trod_slice ht hv with ⟨rfl,_⟩ | ⟨a,len,cap,elems,rest,n,_,rfl,rfl,hb,hlc,hcm,agi,gZ,_,_⟩
 · exact ⟨φ,h,(.aK,[]),Gx.refl ok ro y,LR.cons VR.aK (LR.nil _),⟨aA.size,(Nat.zero_mul _).symm,Nat.pow_pos (by decide),rfl,.inl rfl⟩,.inl rfl,fun x hx=>by cases hx⟩
 rcases Nat.eq_zero_or_pos len with h0 | h0
 · subst h0
   exact ⟨φ,h,(.ff,[]),Gx.refl ok ro y,LR.cons (VR.ff a cap) (LR.nil _),⟨aA.size,(Nat.zero_mul _).symm,Nat.pow_pos (by decide),rfl,.inl rfl⟩,.inr (.inl rfl),fun x hx=>by cases hx⟩
 have CW:len<2^60∧(DataW.weightsAll env.P (aA.e α) (elems.map (·.1))).all (· ≤reachBytes)=true:=by
  unfold Small at hw
  rw[DataW.weights,ht] at hw
  simp only[List.all_cons,List.all_append,Bool.and_eq_true,List.length_map] at hw
  refine ⟨NK (Nat.le_trans ?_ (of_decide_eq_true hw.1)),hw.2.1⟩
  rw[agi]
  exact Nat.le_trans (Nat.le_add_right _ _) (Nat.le_mul_of_pos_right _ hby)
 have all:∀m,m≤len→∃(φ':Ph) (h':aw) (xs:List α),Gx φ φ' h h' w∧xs.length=m∧(∀x∈xs,aA.ok h' x)∧∀(i:Nat) (x:α),xs[i]? =some x→∀j v,(aA.c x)[j]? =some v→∃y,w.cell? ((a.add (i*aA.n α)).add j)=some y∧VR φ' v y:=by
  intro m
  induction m with
  | zero=>exact fun _=>⟨φ,h,[],Gx.refl ok ro y,rfl,fun _ hx=>(by cases hx),fun i xi hx=>(by simp at hx)⟩
  | succ m ih=>
    intro Y1
    obtain ⟨φ1,h1,xs,g1,hl,hq,hx⟩:=ih o!
    have h2:=gZ m o!
    rw[List.getElem?_eq_getElem o!,hs] at h2
    simp only[Option.bind_eq_some_iff] at h2
    obtain ⟨ci,hc1,hc2⟩:=h2
    obtain ⟨_,Qa,MN⟩:=World.cells?_some hc1
    obtain ⟨φ2,h2,x,g2,AX,kH⟩:=he φ1 h1 g1.ok g1.ro g1.tidy ci _ n Qa (Small.all CW.2 _ (List.mem_map.2 ⟨_,List.getElem_mem _,rfl⟩)) hc2
    refine ⟨φ2,h2,xs++[x],g1.trans g2,by simp [hl],fun z hz=>?_,fun i z hz=>?_⟩
    · rcases List.mem_append.1 hz with h | h
      · exact aA.mono g2.has (hq z h)
      · simp at h;subst h;exact kH
    · by_cases hi:i<xs.length
      · rw[List.getElem?_append_left hi] at hz
        intro j v hj
        obtain ⟨q,e1,e2⟩:=hx i z hz j v hj
        exact ⟨q,e1,e2.mono g2.le⟩
      · rw[List.getElem?_append_right o!] at hz
        have:i - xs.length=0:=by
         have:=(List.getElem?_eq_some_iff.1 hz).1
         simp at this;omega
        rw[this] at hz
        simp at hz;subst hz
        have:i=m:=by omega
        subst this
        intro j v hj
        have pf:j<(aA.c x).length:=(List.getElem?_eq_some_iff.1 hj).1
        have Um:j<ci.length:=by rw[←AX.1];exact pf
        exact ⟨ci[j],by rw[MN j (by rw[Qa] at Um;exact Um),List.getElem?_eq_getElem Um],AX.2 j v _ hj (List.getElem?_eq_getElem Um)⟩
 obtain ⟨φ1,h1,xs,g1,hl,hq,hx⟩:=all len (Nat.le_refl _)
 have BP:=cK aA.len xs
 have NL:a.spot=none:=by
  have hx0:xs[0]? =some (xs[0]'o!):=List.getElem?_eq_getElem o!
  obtain ⟨y,hy,_⟩:=hx 0 _ hx0 0 ((aA.c (xs[0]'o!))[0]'(by rw[aA.len];exact Ug)) (List.getElem?_eq_getElem _)
  simp only[Nat.zero_mul,Addr.add,if_true] at hy
  unfold World.cell? at hy
  split at hy
  · cases hsp:a.spot with
    | none=>rfl
    | some _=>rw[hsp] at hy;simp at hy
  · cases hy
 have adQ:∀i j,(a.add (i*aA.n α)).add j=⟨a.block,a.off+(i*aA.n α+j),none⟩:=by
  intro i j
  obtain ⟨b,o,sp⟩:=a
  simp only at NL
  subst NL
  unfold Addr.add
  by_cases h1:i*aA.n α=0<;>by_cases h2:j=0<;>simp [h1,h2,Nat.add_assoc]
 have eM:xs.flatMap aA.c≠ []:=by
  intro e
  have:=congrArg List.length e
  rw[BP,hl] at this
  have:=Nat.mul_pos h0 Ug
  simp at *
  omega
 obtain ⟨h',hn,r_,hle,agj,aht,hg,hold,iE⟩:=g1.ok.show g1.ro (b:=a.block) (off:=a.off) (e:=aA.e α) eM (fun m Y1=>by
  have:AV.map m∈xs.flatMap aA.c:=by rw[Y1];simp
  obtain ⟨z,hz,hmz⟩:=List.mem_flatMap.1 this
  exact hm h1 z m (hq z hz) hmz) (fun k v hk=>by
  have Ht:k<(xs.flatMap aA.c).length:=(List.getElem?_eq_some_iff.1 hk).1
  have hdm:k/aA.n α*aA.n α+k%aA.n α=k:=by rw[Nat.mul_comm];exact Nat.div_add_mod k _
  have hi:k/aA.n α<xs.length:=by
   rw[BP] at Ht
   exact (Nat.div_lt_iff_lt_mul Ug).2 Ht
  have hk2:=hk
  rw[←hdm,iU aA.len _ _ _ hi (Nat.mod_lt _ Ug)] at hk2
  have hgi:xs[k/aA.n α]? =some (xs.g (k/aA.n α)):=by
   rw[List.g,List.getD_eq_getElem?_getD,List.getElem?_eq_getElem hi];rfl
  obtain ⟨y,hy,hvr⟩:=hx _ _ hgi _ v hk2
  rw[adQ,hdm] at hy
  exact ⟨y,hy,hvr⟩)
 have hVR:=VR.slice (φ:=φ1.add h1.nx ⟨a.block,a.off,0⟩) 0 len cap false iE
 have has:Has h1 h':=wY g1.tidy hn
 refine ⟨_,h',(.slice h1.nx 0 len cap false,xs),g1.trans ⟨r_,hle,agj,has,by omega,fQ g1.tidy hn⟩,LR.cons ?_ (LR.nil _),?_⟩
 · obtain ⟨b,o,sp⟩:=a
   simp only at NL
   subst NL
   exact hVR
 · subst hl
   exact ⟨⟨aA.size,BP,CW.1,rfl,.inr ⟨h1.nx,0,_,cap,false,_,_,true,rfl,hlc,hg,fun j _=>by rw[Nat.zero_add]⟩⟩,.inr (.inr ⟨_,_,_,_,_,rfl,fun e=>by cases e⟩),fun x hx=>aA.mono has (hq x hx)⟩
end
open Go.ChangeShapes Go.WideShapes Go.RowKit
section
variable {H:Type} {enc:TypeId×Value→H} {w:World} {base:Nat} {spare:Nat→Bool} {held:Bool}
end
end
end Go.Proofs.aJ
