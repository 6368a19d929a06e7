import Derived.Test.YtmbkbhleedecdaaGreatDoorW0
import Derived.Test.YtmbkbhleedecdaaGreatDoorW3
namespace Go.Proofs.aM
open Go.Proofs Ab
noncomputable section
set_option maxRecDepth 100000
set_option maxHeartbeats 4000000
set_option linter.unusedVariables false
set_option linter.unusedSimpArgs false
def px:Code:=(Tryz.f36.body).getD .skip
theorem fq:Tryz.f36.body=some px:=by kernel_rfl
def yS:Code:=(b5 px).getD 0 .skip
def eO (i:Int) (p:bO):Nat→Nat→Option (Int)
 | 0,_=>none
 | eC+1,i0=>(bif (decide ((p.ai.g i0).measure=((p.ai.g i.toNat).measure))) then some 6 else eO i p eC (i0+1))
theorem lH {d:Nat} {h:ax} (i:Int) (p:bO) (da:Nat) (jj:Nat) (bh:aJ h p.ae p.ab) (di:aJ h p.ag p.af) (jR:aJ h p.au p.ai) (oa:aH.ok h p) (QD:aH.ok h (p.ai.g i.toNat)) (ma:0≤i) (acw:i<(p.ai.length:Int)):∀(k_ i_:Nat) (_:i_+k_=i.toNat) (x:Nat→AV) (hh:ax) (aF:Tidy hh) (aG:Has h hh) (b6:hh.get da=some (aK.cells [p.ae,p.ag,p.au] 26 false)) (jk:hh.get jj=some (aK.cells [(Zi (p.ai.g i.toNat).az),(Zi (p.ai.g i.toNat).level),(Zi (p.ai.g i.toNat).bq),(Zi (p.ai.g i.toNat).measure)] 71 false)),aB (cT (d+1)) yS ⟨((x 0)::(Zi i)::(Pt da)::(x 3)::(x 4)::(Pt jj)::(Zn i_)::rx x 7 53 []),hh,[],.no⟩ (.exit 0) hh (fun y=>((y 0)::(Zi i)::(Pt da)::(y 3)::(y 4)::(Pt jj)::rx y 6 54 [])) (fun r y=>((y 0)::(Zi i)::(Pt da)::(y 3)::(Zi r)::(Pt jj)::rx y 6 54 [])) (eO i p k_ i_)
 | 0,i0,jh,x,hh,aF,aG,b6,jk=>by
   have dp:=bh.small
   have gd:=di.small
   have og:=jR.small
   have te:=aF _ _ b6
   have Kr:=aF _ _ jk
   have q1:(decide (((i0:Nat):Int)<i))=false:=d!
   exact aB.out rfl (pk (d+1) _ _ hh _ hh (CN 2<|VV (aY 3 false false .i64 ((i0:Nat):Int) i)<|BB q1<|ZZ) k!) (bW.refl aF) k!
 | eC+1,i0,jh,x,hh,aF,aG,b6,jk=>by
   have dp:=bh.small
   have gd:=di.small
   have og:=jR.small
   have te:=aF _ _ b6
   have Kr:=aF _ _ jk
   have q1:(decide (((i0:Nat):Int)<i))=true:=d!
   obtain ⟨p3,q4,eD⟩:=(jR.has aG).elem (i:=i0) o!
   have ik:b8 env (some (.slice 71)) (some p.au) (some (Zn i0))=some (AV.ptr p3 q4):=eD
   have ji:bS env hh 3 (AV.ptr p3 (q4+3))=some (Zi (p.ai.g i0).measure):=(jR.has aG).part (t:=3) (j:=3) o! eD k! rfl
   have c6:AV.same 20 p.au p.au=true:=(jR.has aG).same 19
   rcases Bool.eq_false_or_eq_true (decide ((p.ai.g i0).measure=((p.ai.g i.toNat).measure))) with f1 | f1
   · have fK:=of_decide_eq_true f1
     exact aB.ret 6 (by simp only[eO,f1,ak,ah]) (pk (d+1) _ _ hh _ hh (CN 2<|VV (aY 3 false false .i64 ((i0:Nat):Int) i)<|BC q1<|MM (ao 24 2 p.au b6 k!)<|CC<|VV ik<|CC<|MM ji<|CC<|MM (ao 3 3 (Zi (p.ai.g i.toNat).measure) jk k!)<|VV (eA 3 false false .i64 (p.ai.g i0).measure (p.ai.g i.toNat).measure)<|HH (ao 24 2 p.au b6 k!)<|HH c6<|HH ji<|HH (show AV.same 20 (Zi (p.ai.g i0).measure) (Zi (p.ai.g i0).measure)=true from aC 19 _ _)<|HH (ao 3 3 (Zi (p.ai.g i.toNat).measure) jk k!)<|HH (show AV.same 20 (Zi (p.ai.g i.toNat).measure) (Zi (p.ai.g i.toNat).measure)=true from aC 19 _ _)<|BC f1<|ZZ) k!) (bW.refl aF) k!
   · have fK:=of_decide_eq_false f1
     have u8:=eZ 3 false true i0 1 o!
     exact aB.round (by simp only[eO,f1,ak,ah]) (pk (d+1) _ _ hh _ hh (CN 2<|VV (aY 3 false false .i64 ((i0:Nat):Int) i)<|BC q1<|MM (ao 24 2 p.au b6 k!)<|CC<|VV ik<|CC<|MM ji<|CC<|MM (ao 3 3 (Zi (p.ai.g i.toNat).measure) jk k!)<|VV (eA 3 false false .i64 (p.ai.g i0).measure (p.ai.g i.toNat).measure)<|HH (ao 24 2 p.au b6 k!)<|HH c6<|HH ji<|HH (show AV.same 20 (Zi (p.ai.g i0).measure) (Zi (p.ai.g i0).measure)=true from aC 19 _ _)<|HH (ao 3 3 (Zi (p.ai.g i.toNat).measure) jk k!)<|HH (show AV.same 20 (Zi (p.ai.g i.toNat).measure) (Zi (p.ai.g i.toNat).measure)=true from aC 19 _ _)<|BC f1<|VV u8<|CC<|ZZ) k!) (bW.refl aF) _ k! (fun x=>lH i p da jj bh di jR oa QD ma acw eC (i0+1) o! x hh aF aG b6 jk)
def bN (p:bO) (i:Int):Int:=(bif (decide ((p.ai.g i.toNat).az<0)) then 7 else (bif (decide (((p.ab.length:Nat):Int)≤((p.ai.g i.toNat).az))) then 7 else (bif (decide ((p.ai.g i.toNat).measure<0)) then 7 else (bif (decide (((p.af.length:Nat):Int)≤((p.ai.g i.toNat).measure))) then 7 else (bif (!(bD (p.ai.g i.toNat).level)) then 1 else (bif (!(bD (p.ai.g i.toNat).bq)) then 1 else (match (eO i p i.toNat 0) with | none=>0 | some Kq=>Kq)))))))
theorem BX {d:Nat} {h:ax} (p:bO) (i:Int) (dg:aH.ok h p) (Nv:0≤i) (aam:i<(p.ai.length:Int)) (ca:Tidy h):cT (d+2) (.fn 36) [(AV.agg [p.ae,p.ag,p.au]),(Zi i)] h= .ret (Zi (bN p i)) h:=by
 have nj:=dg.1.small
 have jP:=dg.2.1.small
 have jQ:=dg.2.2.small
 obtain ⟨h1,br,cD,lh,aA,dC⟩:=lk ca (aK.cells [p.ae,p.ag,p.au] 26 false)
 have bB:Has h h1:=dC
 obtain ⟨p3,q4,eD⟩:=dg.2.2.elem (i:=i.toNat) o!
 have ik:b8 env (some (.slice 71)) (some p.au) (some (Zi i))=some (AV.ptr p3 q4):=by rw[show (i:Int)=((i.toNat:Nat):Int) by omega];exact eD
 have ji:bS env h1 71 (AV.ptr p3 q4)=some (AV.agg [(Zi (p.ai.g i.toNat).az),(Zi (p.ai.g i.toNat).level),(Zi (p.ai.g i.toNat).bq),(Zi (p.ai.g i.toNat).measure)]):=(dg.2.2.has bB).load o! eD
 obtain ⟨h6,kI,kJ,BK,n7,eS⟩:=lk cD (aK.cells [(Zi 0),(Zi 0),(Zi 0),(Zi 0)] 71 false)
 have iC:Has h h6:=bB.trans eS
 obtain ⟨h7,kK,dK,xm,bG,cH⟩:=vF (t:=71) (n:=4) (i:=h1.nx) (L:=[(Zi (p.ai.g i.toNat).az),(Zi (p.ai.g i.toNat).level),(Zi (p.ai.g i.toNat).bq),(Zi (p.ai.g i.toNat).measure)]) kJ n7 k! rfl rfl (by simp only[AV.cells,List.all_cons,List.all_nil,Bool.and_true,Bool.and_self,kC,iA,kD,kE,fY,nW,nX,nY,nZ,n4,kF])
 have cK:Has h h7:=Has.eB iC cH ca o!
 rcases Bool.eq_false_or_eq_true (decide ((p.ai.g i.toNat).az<0)) with f0 | f0
 · have e_:=of_decide_eq_true f0
   have e:bN p i=7:=by simp only[bN,f0,ak,ah]
   rw[e]
   exact aw rfl (aI Tryz.func36 fq rfl (.inr rfl) (pk (d+1) _ _ h _ h7 (NN br (fun i=>(Pt i))<|CN 2<|MM (ao 24 2 p.au aA k!)<|CC<|VV ik<|MM ji<|NN kI (fun i=>(Pt i))<|SS kK<|CC<|MM (ao 3 0 (Zi (p.ai.g i.toNat).az) bG k!)<|VV (aY 3 false true .i64 (p.ai.g i.toNat).az 0)<|CC<|BB f0<|BB f0<|BB f0<|BB f0<|BB f0<|BV f0 (ml true f0)<|CC<|TT<|TT<|TT<|CN 2<|TT<|TT<|TT<|TT<|TT<|TT<|CC<|TT<|CC<|ZZ) k!) k!) cK rfl
 · have e_:=of_decide_eq_false f0
   have Ip:cg (some (.slice 43)) (some p.ae)=some (Zn p.ab.length):=dg.1.len
   rcases Bool.eq_false_or_eq_true (decide (((p.ab.length:Nat):Int)≤((p.ai.g i.toNat).az))) with f1 | f1
   · have fK:=of_decide_eq_true f1
     have e:bN p i=7:=by simp only[bN,f0,f1,ak,ah]
     rw[e]
     exact aw rfl (aI Tryz.func36 fq rfl (.inr rfl) (pk (d+1) _ _ h _ h7 (NN br (fun i=>(Pt i))<|CN 2<|MM (ao 24 2 p.au aA k!)<|CC<|VV ik<|MM ji<|NN kI (fun i=>(Pt i))<|SS kK<|CC<|MM (ao 3 0 (Zi (p.ai.g i.toNat).az) bG k!)<|VV (aY 3 false true .i64 (p.ai.g i.toNat).az 0)<|CC<|BC f0<|BM f0 (ao 3 0 (Zi (p.ai.g i.toNat).az) bG k!)<|BC f0<|BM f0 (ao 22 0 p.ae (cH _ _ o! (eS _ _ aA)) k!)<|BV f0 Ip<|BV f0 (b9 3 false false .i64 (p.ai.g i.toNat).az ((p.ab.length:Nat):Int))<|VV (aE (a:=some (AV.bool true)) (b:=some (AV.bool (decide (((p.ab.length:Nat):Int)≤((p.ai.g i.toNat).az))))) f0)<|CC<|BB f1<|BB f1<|BV f1 (ml true f1)<|CC<|TT<|TT<|TT<|TT<|TT<|TT<|CC<|TT<|CC<|ZZ) k!) k!) cK rfl
   · have fK:=of_decide_eq_false f1
     rcases Bool.eq_false_or_eq_true (decide ((p.ai.g i.toNat).measure<0)) with f2 | f2
     · have mT:=of_decide_eq_true f2
       have e:bN p i=7:=by simp only[bN,f0,f1,f2,ak,ah]
       rw[e]
       exact aw rfl (aI Tryz.func36 fq rfl (.inr rfl) (pk (d+1) _ _ h _ h7 (NN br (fun i=>(Pt i))<|CN 2<|MM (ao 24 2 p.au aA k!)<|CC<|VV ik<|MM ji<|NN kI (fun i=>(Pt i))<|SS kK<|CC<|MM (ao 3 0 (Zi (p.ai.g i.toNat).az) bG k!)<|VV (aY 3 false true .i64 (p.ai.g i.toNat).az 0)<|CC<|BC f0<|BM f0 (ao 3 0 (Zi (p.ai.g i.toNat).az) bG k!)<|BC f0<|BM f0 (ao 22 0 p.ae (cH _ _ o! (eS _ _ aA)) k!)<|BV f0 Ip<|BV f0 (b9 3 false false .i64 (p.ai.g i.toNat).az ((p.ab.length:Nat):Int))<|VV (aE (a:=some (AV.bool true)) (b:=some (AV.bool (decide (((p.ab.length:Nat):Int)≤((p.ai.g i.toNat).az))))) f0)<|CC<|BC f1<|BM f1 (ao 3 3 (Zi (p.ai.g i.toNat).measure) bG k!)<|BV f1 (aY 3 false true .i64 (p.ai.g i.toNat).measure 0)<|VV (aE (a:=some (AV.bool true)) (b:=some (AV.bool (decide ((p.ai.g i.toNat).measure<0)))) f1)<|CC<|BB f2<|BB f2<|BB f2<|BB f2<|BB f2<|BV f2 (ml true f2)<|TT<|CC<|ZZ) k!) k!) cK rfl
     · have mT:=of_decide_eq_false f2
       have QE:cg (some (.slice 45)) (some p.ag)=some (Zn p.af.length):=dg.2.1.len
       rcases Bool.eq_false_or_eq_true (decide (((p.af.length:Nat):Int)≤((p.ai.g i.toNat).measure))) with f3 | f3
       · have kM:=of_decide_eq_true f3
         have e:bN p i=7:=by simp only[bN,f0,f1,f2,f3,ak,ah]
         rw[e]
         exact aw rfl (aI Tryz.func36 fq rfl (.inr rfl) (pk (d+1) _ _ h _ h7 (NN br (fun i=>(Pt i))<|CN 2<|MM (ao 24 2 p.au aA k!)<|CC<|VV ik<|MM ji<|NN kI (fun i=>(Pt i))<|SS kK<|CC<|MM (ao 3 0 (Zi (p.ai.g i.toNat).az) bG k!)<|VV (aY 3 false true .i64 (p.ai.g i.toNat).az 0)<|CC<|BC f0<|BM f0 (ao 3 0 (Zi (p.ai.g i.toNat).az) bG k!)<|BC f0<|BM f0 (ao 22 0 p.ae (cH _ _ o! (eS _ _ aA)) k!)<|BV f0 Ip<|BV f0 (b9 3 false false .i64 (p.ai.g i.toNat).az ((p.ab.length:Nat):Int))<|VV (aE (a:=some (AV.bool true)) (b:=some (AV.bool (decide (((p.ab.length:Nat):Int)≤((p.ai.g i.toNat).az))))) f0)<|CC<|BC f1<|BM f1 (ao 3 3 (Zi (p.ai.g i.toNat).measure) bG k!)<|BV f1 (aY 3 false true .i64 (p.ai.g i.toNat).measure 0)<|VV (aE (a:=some (AV.bool true)) (b:=some (AV.bool (decide ((p.ai.g i.toNat).measure<0)))) f1)<|CC<|BC f2<|BM f2 (ao 3 3 (Zi (p.ai.g i.toNat).measure) bG k!)<|BC f2<|BM f2 (ao 23 1 p.ag (cH _ _ o! (eS _ _ aA)) k!)<|BV f2 QE<|BV f2 (b9 3 false false .i64 (p.ai.g i.toNat).measure ((p.af.length:Nat):Int))<|VV (aE (a:=some (AV.bool true)) (b:=some (AV.bool (decide (((p.af.length:Nat):Int)≤((p.ai.g i.toNat).measure))))) f2)<|BC f3<|ZZ) k!) k!) cK rfl
       · have kM:=of_decide_eq_false f3
         have Qk:=uw (d:=d) (p.ai.g i.toNat).level dK
         rcases Bool.eq_false_or_eq_true (!(bD (p.ai.g i.toNat).level)) with f4 | f4
         · have e:bN p i=1:=by simp only[bN,f0,f1,f2,f3,f4,ak,ah]
           rw[e]
           exact aw rfl (aI Tryz.func36 fq rfl (.inr rfl) (pk (d+1) _ _ h _ h7 (NN br (fun i=>(Pt i))<|CN 2<|MM (ao 24 2 p.au aA k!)<|CC<|VV ik<|MM ji<|NN kI (fun i=>(Pt i))<|SS kK<|CC<|MM (ao 3 0 (Zi (p.ai.g i.toNat).az) bG k!)<|VV (aY 3 false true .i64 (p.ai.g i.toNat).az 0)<|CC<|BC f0<|BM f0 (ao 3 0 (Zi (p.ai.g i.toNat).az) bG k!)<|BC f0<|BM f0 (ao 22 0 p.ae (cH _ _ o! (eS _ _ aA)) k!)<|BV f0 Ip<|BV f0 (b9 3 false false .i64 (p.ai.g i.toNat).az ((p.ab.length:Nat):Int))<|VV (aE (a:=some (AV.bool true)) (b:=some (AV.bool (decide (((p.ab.length:Nat):Int)≤((p.ai.g i.toNat).az))))) f0)<|CC<|BC f1<|BM f1 (ao 3 3 (Zi (p.ai.g i.toNat).measure) bG k!)<|BV f1 (aY 3 false true .i64 (p.ai.g i.toNat).measure 0)<|VV (aE (a:=some (AV.bool true)) (b:=some (AV.bool (decide ((p.ai.g i.toNat).measure<0)))) f1)<|CC<|BC f2<|BM f2 (ao 3 3 (Zi (p.ai.g i.toNat).measure) bG k!)<|BC f2<|BM f2 (ao 23 1 p.ag (cH _ _ o! (eS _ _ aA)) k!)<|BV f2 QE<|BV f2 (b9 3 false false .i64 (p.ai.g i.toNat).measure ((p.af.length:Nat):Int))<|VV (aE (a:=some (AV.bool true)) (b:=some (AV.bool (decide (((p.af.length:Nat):Int)≤((p.ai.g i.toNat).measure))))) f2)<|BC f3<|MM (ao 3 1 (Zi (p.ai.g i.toNat).level) bG k!)<|EE Qk<|CN 2<|BB f4<|BB f4<|BB f4<|BV f4 (ml true f4)<|TT<|CC<|ZZ) k!) k!) cK rfl
         · have Gs:=uw (d:=d) (p.ai.g i.toNat).bq dK
           rcases Bool.eq_false_or_eq_true (!(bD (p.ai.g i.toNat).bq)) with f5 | f5
           · have e:bN p i=1:=by simp only[bN,f0,f1,f2,f3,f4,f5,ak,ah]
             rw[e]
             exact aw rfl (aI Tryz.func36 fq rfl (.inr rfl) (pk (d+1) _ _ h _ h7 (NN br (fun i=>(Pt i))<|CN 2<|MM (ao 24 2 p.au aA k!)<|CC<|VV ik<|MM ji<|NN kI (fun i=>(Pt i))<|SS kK<|CC<|MM (ao 3 0 (Zi (p.ai.g i.toNat).az) bG k!)<|VV (aY 3 false true .i64 (p.ai.g i.toNat).az 0)<|CC<|BC f0<|BM f0 (ao 3 0 (Zi (p.ai.g i.toNat).az) bG k!)<|BC f0<|BM f0 (ao 22 0 p.ae (cH _ _ o! (eS _ _ aA)) k!)<|BV f0 Ip<|BV f0 (b9 3 false false .i64 (p.ai.g i.toNat).az ((p.ab.length:Nat):Int))<|VV (aE (a:=some (AV.bool true)) (b:=some (AV.bool (decide (((p.ab.length:Nat):Int)≤((p.ai.g i.toNat).az))))) f0)<|CC<|BC f1<|BM f1 (ao 3 3 (Zi (p.ai.g i.toNat).measure) bG k!)<|BV f1 (aY 3 false true .i64 (p.ai.g i.toNat).measure 0)<|VV (aE (a:=some (AV.bool true)) (b:=some (AV.bool (decide ((p.ai.g i.toNat).measure<0)))) f1)<|CC<|BC f2<|BM f2 (ao 3 3 (Zi (p.ai.g i.toNat).measure) bG k!)<|BC f2<|BM f2 (ao 23 1 p.ag (cH _ _ o! (eS _ _ aA)) k!)<|BV f2 QE<|BV f2 (b9 3 false false .i64 (p.ai.g i.toNat).measure ((p.af.length:Nat):Int))<|VV (aE (a:=some (AV.bool true)) (b:=some (AV.bool (decide (((p.af.length:Nat):Int)≤((p.ai.g i.toNat).measure))))) f2)<|BC f3<|MM (ao 3 1 (Zi (p.ai.g i.toNat).level) bG k!)<|EE Qk<|CN 2<|BC f4<|BM f4 (ao 3 2 (Zi (p.ai.g i.toNat).bq) bG k!)<|BB f4<|EE Gs<|BC f4<|VV (aE (a:=some (AV.bool true)) (b:=some (AV.bool (!(bD (p.ai.g i.toNat).bq)))) f4)<|BC f5<|ZZ) k!) k!) cK rfl
           · cases nk:eO i p i.toNat 0 with
             | none=>
               obtain ⟨XA,FT,ru,oe⟩:=aB.n nk (lH (d:=d) (h:=h) i p h.nx h1.nx dg.1 dg.2.1 dg.2.2 dg (dg.2.2.ok (i:=i.toNat) o!) o! o! i.toNat 0 o! (fun k_=>(((AV.agg [p.ae,p.ag,p.au])::(Zi i)::(Pt h.nx)::AV.undef::(Zi 0)::(Pt h1.nx)::(Zi 0)::(AV.ptr h.nx 2)::p.au::(Zi i)::(AV.ptr p3 q4)::(AV.agg [(Zi (p.ai.g i.toNat).az),(Zi (p.ai.g i.toNat).level),(Zi (p.ai.g i.toNat).bq),(Zi (p.ai.g i.toNat).measure)])::(Pt h1.nx)::(Zi (p.ai.g i.toNat).az)::(AV.bool (decide ((p.ai.g i.toNat).az<0)))::(AV.bool (decide ((p.ai.g i.toNat).az<0)))::(Pt h1.nx)::(Zi (p.ai.g i.toNat).az)::(Pt h.nx)::p.ae::(Zn p.ab.length)::(AV.bool (decide (((p.ab.length:Nat):Int)≤((p.ai.g i.toNat).az))))::(AV.bool (decide (((p.ab.length:Nat):Int)≤((p.ai.g i.toNat).az))))::(AV.bool (decide (((p.ab.length:Nat):Int)≤((p.ai.g i.toNat).az))))::(AV.ptr h1.nx 3)::(Zi (p.ai.g i.toNat).measure)::(AV.bool (decide ((p.ai.g i.toNat).measure<0)))::(AV.bool (decide ((p.ai.g i.toNat).measure<0)))::(AV.bool (decide ((p.ai.g i.toNat).measure<0)))::(AV.ptr h1.nx 3)::(Zi (p.ai.g i.toNat).measure)::(AV.ptr h.nx 1)::p.ag::(Zn p.af.length)::(AV.bool (decide (((p.af.length:Nat):Int)≤((p.ai.g i.toNat).measure))))::(AV.bool (decide (((p.af.length:Nat):Int)≤((p.ai.g i.toNat).measure))))::(AV.ptr h1.nx 1)::(Zi (p.ai.g i.toNat).level)::(AV.bool (bD (p.ai.g i.toNat).level))::(AV.bool (!(bD (p.ai.g i.toNat).level)))::(AV.bool (!(bD (p.ai.g i.toNat).level)))::(AV.ptr h1.nx 2)::(Zi (p.ai.g i.toNat).bq)::(AV.bool (bD (p.ai.g i.toNat).bq))::(AV.bool (!(bD (p.ai.g i.toNat).bq)))::(AV.bool (!(bD (p.ai.g i.toNat).bq)))::jg 14):List AV).getD k_ AV.undef) h7 dK cK (cH _ _ o! (eS _ _ aA)) bG)
               have Io:=oe.y
               have Ma:h7.nx≤FT.nx:=oe.n
               have xG:Has h FT:=cK.trans oe.a
               have e:bN p i=0:=by simp only[bN,f0,f1,f2,f3,f4,f5,nk,ak,ah]
               rw[e]
               exact aw rfl (aI Tryz.func36 fq rfl (.inr rfl) (pk (d+1) _ _ h _ FT (NN br (fun i=>(Pt i))<|CN 2<|MM (ao 24 2 p.au aA k!)<|CC<|VV ik<|MM ji<|NN kI (fun i=>(Pt i))<|SS kK<|CC<|MM (ao 3 0 (Zi (p.ai.g i.toNat).az) bG k!)<|VV (aY 3 false true .i64 (p.ai.g i.toNat).az 0)<|CC<|BC f0<|BM f0 (ao 3 0 (Zi (p.ai.g i.toNat).az) bG k!)<|BC f0<|BM f0 (ao 22 0 p.ae (cH _ _ o! (eS _ _ aA)) k!)<|BV f0 Ip<|BV f0 (b9 3 false false .i64 (p.ai.g i.toNat).az ((p.ab.length:Nat):Int))<|VV (aE (a:=some (AV.bool true)) (b:=some (AV.bool (decide (((p.ab.length:Nat):Int)≤((p.ai.g i.toNat).az))))) f0)<|CC<|BC f1<|BM f1 (ao 3 3 (Zi (p.ai.g i.toNat).measure) bG k!)<|BV f1 (aY 3 false true .i64 (p.ai.g i.toNat).measure 0)<|VV (aE (a:=some (AV.bool true)) (b:=some (AV.bool (decide ((p.ai.g i.toNat).measure<0)))) f1)<|CC<|BC f2<|BM f2 (ao 3 3 (Zi (p.ai.g i.toNat).measure) bG k!)<|BC f2<|BM f2 (ao 23 1 p.ag (cH _ _ o! (eS _ _ aA)) k!)<|BV f2 QE<|BV f2 (b9 3 false false .i64 (p.ai.g i.toNat).measure ((p.af.length:Nat):Int))<|VV (aE (a:=some (AV.bool true)) (b:=some (AV.bool (decide (((p.af.length:Nat):Int)≤((p.ai.g i.toNat).measure))))) f2)<|BC f3<|MM (ao 3 1 (Zi (p.ai.g i.toNat).level) bG k!)<|EE Qk<|CN 2<|BC f4<|BM f4 (ao 3 2 (Zi (p.ai.g i.toNat).bq) bG k!)<|BB f4<|EE Gs<|BC f4<|VV (aE (a:=some (AV.bool true)) (b:=some (AV.bool (!(bD (p.ai.g i.toNat).bq)))) f4)<|BC f5<|LL ru<|CC<|ZZ) k!) k!) xG rfl
             | some Kq=>
               obtain ⟨XA,FT,ru,oe⟩:=aB.r nk (lH (d:=d) (h:=h) i p h.nx h1.nx dg.1 dg.2.1 dg.2.2 dg (dg.2.2.ok (i:=i.toNat) o!) o! o! i.toNat 0 o! (fun k_=>(((AV.agg [p.ae,p.ag,p.au])::(Zi i)::(Pt h.nx)::AV.undef::(Zi 0)::(Pt h1.nx)::(Zi 0)::(AV.ptr h.nx 2)::p.au::(Zi i)::(AV.ptr p3 q4)::(AV.agg [(Zi (p.ai.g i.toNat).az),(Zi (p.ai.g i.toNat).level),(Zi (p.ai.g i.toNat).bq),(Zi (p.ai.g i.toNat).measure)])::(Pt h1.nx)::(Zi (p.ai.g i.toNat).az)::(AV.bool (decide ((p.ai.g i.toNat).az<0)))::(AV.bool (decide ((p.ai.g i.toNat).az<0)))::(Pt h1.nx)::(Zi (p.ai.g i.toNat).az)::(Pt h.nx)::p.ae::(Zn p.ab.length)::(AV.bool (decide (((p.ab.length:Nat):Int)≤((p.ai.g i.toNat).az))))::(AV.bool (decide (((p.ab.length:Nat):Int)≤((p.ai.g i.toNat).az))))::(AV.bool (decide (((p.ab.length:Nat):Int)≤((p.ai.g i.toNat).az))))::(AV.ptr h1.nx 3)::(Zi (p.ai.g i.toNat).measure)::(AV.bool (decide ((p.ai.g i.toNat).measure<0)))::(AV.bool (decide ((p.ai.g i.toNat).measure<0)))::(AV.bool (decide ((p.ai.g i.toNat).measure<0)))::(AV.ptr h1.nx 3)::(Zi (p.ai.g i.toNat).measure)::(AV.ptr h.nx 1)::p.ag::(Zn p.af.length)::(AV.bool (decide (((p.af.length:Nat):Int)≤((p.ai.g i.toNat).measure))))::(AV.bool (decide (((p.af.length:Nat):Int)≤((p.ai.g i.toNat).measure))))::(AV.ptr h1.nx 1)::(Zi (p.ai.g i.toNat).level)::(AV.bool (bD (p.ai.g i.toNat).level))::(AV.bool (!(bD (p.ai.g i.toNat).level)))::(AV.bool (!(bD (p.ai.g i.toNat).level)))::(AV.ptr h1.nx 2)::(Zi (p.ai.g i.toNat).bq)::(AV.bool (bD (p.ai.g i.toNat).bq))::(AV.bool (!(bD (p.ai.g i.toNat).bq)))::(AV.bool (!(bD (p.ai.g i.toNat).bq)))::jg 14):List AV).getD k_ AV.undef) h7 dK cK (cH _ _ o! (eS _ _ aA)) bG)
               have Io:=oe.y
               have Ma:h7.nx≤FT.nx:=oe.n
               have xG:Has h FT:=cK.trans oe.a
               have e:bN p i=Kq:=by simp only[bN,f0,f1,f2,f3,f4,f5,nk,ak,ah]
               rw[e]
               exact aw rfl (aI Tryz.func36 fq rfl (.inr rfl) (pk (d+1) _ _ h _ FT (NN br (fun i=>(Pt i))<|CN 2<|MM (ao 24 2 p.au aA k!)<|CC<|VV ik<|MM ji<|NN kI (fun i=>(Pt i))<|SS kK<|CC<|MM (ao 3 0 (Zi (p.ai.g i.toNat).az) bG k!)<|VV (aY 3 false true .i64 (p.ai.g i.toNat).az 0)<|CC<|BC f0<|BM f0 (ao 3 0 (Zi (p.ai.g i.toNat).az) bG k!)<|BC f0<|BM f0 (ao 22 0 p.ae (cH _ _ o! (eS _ _ aA)) k!)<|BV f0 Ip<|BV f0 (b9 3 false false .i64 (p.ai.g i.toNat).az ((p.ab.length:Nat):Int))<|VV (aE (a:=some (AV.bool true)) (b:=some (AV.bool (decide (((p.ab.length:Nat):Int)≤((p.ai.g i.toNat).az))))) f0)<|CC<|BC f1<|BM f1 (ao 3 3 (Zi (p.ai.g i.toNat).measure) bG k!)<|BV f1 (aY 3 false true .i64 (p.ai.g i.toNat).measure 0)<|VV (aE (a:=some (AV.bool true)) (b:=some (AV.bool (decide ((p.ai.g i.toNat).measure<0)))) f1)<|CC<|BC f2<|BM f2 (ao 3 3 (Zi (p.ai.g i.toNat).measure) bG k!)<|BC f2<|BM f2 (ao 23 1 p.ag (cH _ _ o! (eS _ _ aA)) k!)<|BV f2 QE<|BV f2 (b9 3 false false .i64 (p.ai.g i.toNat).measure ((p.af.length:Nat):Int))<|VV (aE (a:=some (AV.bool true)) (b:=some (AV.bool (decide (((p.af.length:Nat):Int)≤((p.ai.g i.toNat).measure))))) f2)<|BC f3<|MM (ao 3 1 (Zi (p.ai.g i.toNat).level) bG k!)<|EE Qk<|CN 2<|BC f4<|BM f4 (ao 3 2 (Zi (p.ai.g i.toNat).bq) bG k!)<|BB f4<|EE Gs<|BC f4<|VV (aE (a:=some (AV.bool true)) (b:=some (AV.bool (!(bD (p.ai.g i.toNat).bq)))) f4)<|BC f5<|LL ru<|ZZ) k!) k!) xG rfl
def ka:Code:=(Tryz.f35.body).getD .skip
theorem ek:Tryz.f35.body=some ka:=by kernel_rfl
def vO:Code:=(b5 ka).getD 0 .skip
def vP:Code:=(b5 ka).getD 1 .skip
def dH (cA:List aL) (m:aL):Nat→Nat→Option (Int)
 | 0,_=>none
 | eC+1,i0=>(bif (decide ((cA.g i0).name=m.name)) then some 6 else dH cA m eC (i0+1))
theorem kb {d:Nat} {h:ax} (cy:AV) (cA:List aL) (m:aL) (da:Nat) (bh:aJ h cy cA) (di:m.name.length<2^60) (jR:m.ba.length<2^60) (oa:aH.ok h m):∀(k_ i_:Nat) (_:i_+k_=cA.length) (x:Nat→AV) (hh:ax) (aF:Tidy hh) (aG:Has h hh) (b6:hh.get da=some (aK.cells [(AV.str m.name),(AV.str m.ba),(Zi m.bx),(Zi m.eK),(Zi m.bm)] 45 false)),aB (cT (d+1)) vO ⟨((x 0)::cy::(Pt da)::(x 3)::(x 4)::(Zn i_)::rx x 6 65 []),hh,[],.no⟩ (.exit 0) hh (fun y=>((y 0)::cy::(Pt da)::rx y 3 68 [])) (fun r y=>((y 0)::cy::(Pt da)::(y 3)::(Zi r)::rx y 5 66 [])) (dH cA m k_ i_)
 | 0,i0,jh,x,hh,aF,aG,b6=>by
   have dp:=bh.small
   have te:=aF _ _ b6
   have eb:cg (some (.slice 45)) (some cy)=some (Zn cA.length):=(bh.has aG).len
   have q2:(decide (((i0:Nat):Int)<((cA.length:Nat):Int)))=false:=d!
   exact aB.out rfl (pk (d+1) _ _ hh _ hh (CN 2<|VV eb<|VV (aY 3 false false .i64 ((i0:Nat):Int) ((cA.length:Nat):Int))<|BB q2<|ZZ) k!) (bW.refl aF) k!
 | eC+1,i0,jh,x,hh,aF,aG,b6=>by
   have dp:=bh.small
   have te:=aF _ _ b6
   have eb:cg (some (.slice 45)) (some cy)=some (Zn cA.length):=(bh.has aG).len
   have q2:(decide (((i0:Nat):Int)<((cA.length:Nat):Int)))=true:=d!
   obtain ⟨p4,q5,iM⟩:=(bh.has aG).elem (i:=i0) o!
   have mU:b8 env (some (.slice 45)) (some cy) (some (Zn i0))=some (AV.ptr p4 q5):=iM
   have mn:bS env hh 9 (AV.ptr p4 (q5+0))=some (AV.str (cA.g i0).name):=(bh.has aG).part (t:=9) (j:=0) o! iM k! rfl
   rcases Bool.eq_false_or_eq_true (decide ((cA.g i0).name=m.name)) with f1 | f1
   · have fK:=of_decide_eq_true f1
     exact aB.ret 6 (by simp only[dH,f1,ak,ah]) (pk (d+1) _ _ hh _ hh (CN 2<|VV eb<|VV (aY 3 false false .i64 ((i0:Nat):Int) ((cA.length:Nat):Int))<|BB q2<|CN 2<|VV mU<|CC<|MM mn<|CC<|MM (ao 9 0 (AV.str m.name) b6 k!)<|VV (ni 9 false false (cA.g i0).name m.name)<|HH mn<|HH (show AV.same 20 (AV.str (cA.g i0).name) (AV.str (cA.g i0).name)=true from aP 19 _)<|HH (ao 9 0 (AV.str m.name) b6 k!)<|HH (show AV.same 20 (AV.str m.name) (AV.str m.name)=true from aP 19 _)<|BC f1<|ZZ) k!) (bW.refl aF) k!
   · have fK:=of_decide_eq_false f1
     have u8:=eZ 3 false true i0 1 o!
     exact aB.round (by simp only[dH,f1,ak,ah]) (pk (d+1) _ _ hh _ hh (CN 2<|VV eb<|VV (aY 3 false false .i64 ((i0:Nat):Int) ((cA.length:Nat):Int))<|BB q2<|CN 2<|VV mU<|CC<|MM mn<|CC<|MM (ao 9 0 (AV.str m.name) b6 k!)<|VV (ni 9 false false (cA.g i0).name m.name)<|HH mn<|HH (show AV.same 20 (AV.str (cA.g i0).name) (AV.str (cA.g i0).name)=true from aP 19 _)<|HH (ao 9 0 (AV.str m.name) b6 k!)<|HH (show AV.same 20 (AV.str m.name) (AV.str m.name)=true from aP 19 _)<|BC f1<|VV u8<|CC<|ZZ) k!) (bW.refl aF) _ k! (fun x=>kb cy cA m da bh di jR oa eC (i0+1) o! x hh aF aG b6)
def cV (cA:List aL) (m:aL):Nat→Nat→Option (Int)
 | 0,_=>none
 | xC+1,i1=>(bif (decide ((cA.g i1).ba=m.ba)) then (bif (decide ((cA.g i1).bx=m.bx)) then some 10 else cV cA m xC (i1+1)) else cV cA m xC (i1+1))
theorem gX {d:Nat} {h:ax} (cy:AV) (cA:List aL) (m:aL) (f_:Nat) (iW:aJ h cy cA) (f':m.name.length<2^60) (oW:m.ba.length<2^60) (xD:aH.ok h m):∀(k_ i_:Nat) (_:i_+k_=cA.length) (x:Nat→AV) (hh:ax) (aF:Tidy hh) (aG:Has h hh) (cI:hh.get f_=some (aK.cells [(AV.str m.name),(AV.str m.ba),(Zi m.bx),(Zi m.eK),(Zi m.bm)] 45 false)),aB (cT (d+1)) vP ⟨((x 0)::cy::(Pt f_)::rx x 3 3 ((Zn i_)::rx x 7 64 [])),hh,[],.no⟩ (.exit 2) hh (fun y=>((y 0)::cy::(Pt f_)::rx y 3 68 [])) (fun r y=>((y 0)::cy::(Pt f_)::(y 3)::(Zi r)::rx y 5 66 [])) (cV cA m k_ i_)
 | 0,i1,jh,x,hh,aF,aG,cI=>by
   have oh:=iW.small
   have yR:=aF _ _ cI
   have eb:cg (some (.slice 45)) (some cy)=some (Zn cA.length):=(iW.has aG).len
   have q2:(decide (((i1:Nat):Int)<((cA.length:Nat):Int)))=false:=d!
   exact aB.out rfl (pk (d+1) _ _ hh _ hh (CN 2<|VV eb<|VV (aY 3 false false .i64 ((i1:Nat):Int) ((cA.length:Nat):Int))<|BB q2<|ZZ) k!) (bW.refl aF) k!
 | xC+1,i1,jh,x,hh,aF,aG,cI=>by
   have oh:=iW.small
   have yR:=aF _ _ cI
   have eb:cg (some (.slice 45)) (some cy)=some (Zn cA.length):=(iW.has aG).len
   have q2:(decide (((i1:Nat):Int)<((cA.length:Nat):Int)))=true:=d!
   obtain ⟨p4,q5,iM⟩:=(iW.has aG).elem (i:=i1) o!
   have mU:b8 env (some (.slice 45)) (some cy) (some (Zn i1))=some (AV.ptr p4 q5):=iM
   have mn:bS env hh 9 (AV.ptr p4 (q5+1))=some (AV.str (cA.g i1).ba):=(iW.has aG).part (t:=9) (j:=1) o! iM k! rfl
   rcases Bool.eq_false_or_eq_true (decide ((cA.g i1).ba=m.ba)) with f1 | f1
   · have fK:=of_decide_eq_true f1
     obtain ⟨p9,Y7,Nw⟩:=(iW.has aG).elem (i:=i1) o!
     have VN:b8 env (some (.slice 45)) (some cy) (some (Zn i1))=some (AV.ptr p9 Y7):=Nw
     have Iq:bS env hh 3 (AV.ptr p9 (Y7+2))=some (Zi (cA.g i1).bx):=(iW.has aG).part (t:=3) (j:=2) o! Nw k! rfl
     rcases Bool.eq_false_or_eq_true (decide ((cA.g i1).bx=m.bx)) with f2 | f2
     · have mT:=of_decide_eq_true f2
       exact aB.ret 10 (by simp only[cV,f1,f2,ak,ah]) (pk (d+1) _ _ hh _ hh (CN 2<|VV eb<|VV (aY 3 false false .i64 ((i1:Nat):Int) ((cA.length:Nat):Int))<|BB q2<|CN 2<|VV mU<|CC<|MM mn<|CC<|MM (ao 9 1 (AV.str m.ba) cI k!)<|VV (ni 9 false false (cA.g i1).ba m.ba)<|CC<|BC f1<|BC f1<|BV f1 VN<|BC f1<|BM f1 Iq<|BC f1<|BM f1 (ao 3 2 (Zi m.bx) cI k!)<|BV f1 (eA 3 false false .i64 (cA.g i1).bx m.bx)<|VV (iI (decide ((cA.g i1).bx=m.bx)) false f1)<|HH mn<|HH (show AV.same 20 (AV.str (cA.g i1).ba) (AV.str (cA.g i1).ba)=true from aP 19 _)<|HH (ao 9 1 (AV.str m.ba) cI k!)<|HH (show AV.same 20 (AV.str m.ba) (AV.str m.ba)=true from aP 19 _)<|HH Iq<|HH (show AV.same 20 (Zi (cA.g i1).bx) (Zi (cA.g i1).bx)=true from aC 19 _ _)<|HH (ao 3 2 (Zi m.bx) cI k!)<|HH (show AV.same 20 (Zi m.bx) (Zi m.bx)=true from aC 19 _ _)<|BC f2<|ZZ) k!) (bW.refl aF) k!
     · have mT:=of_decide_eq_false f2
       have Ul:=eZ 3 false true i1 1 o!
       exact aB.round (by simp only[cV,f1,f2,ak,ah]) (pk (d+1) _ _ hh _ hh (CN 2<|VV eb<|VV (aY 3 false false .i64 ((i1:Nat):Int) ((cA.length:Nat):Int))<|BB q2<|CN 2<|VV mU<|CC<|MM mn<|CC<|MM (ao 9 1 (AV.str m.ba) cI k!)<|VV (ni 9 false false (cA.g i1).ba m.ba)<|CC<|BC f1<|BC f1<|BV f1 VN<|BC f1<|BM f1 Iq<|BC f1<|BM f1 (ao 3 2 (Zi m.bx) cI k!)<|BV f1 (eA 3 false false .i64 (cA.g i1).bx m.bx)<|VV (iI (decide ((cA.g i1).bx=m.bx)) false f1)<|HH mn<|HH (show AV.same 20 (AV.str (cA.g i1).ba) (AV.str (cA.g i1).ba)=true from aP 19 _)<|HH (ao 9 1 (AV.str m.ba) cI k!)<|HH (show AV.same 20 (AV.str m.ba) (AV.str m.ba)=true from aP 19 _)<|HH Iq<|HH (show AV.same 20 (Zi (cA.g i1).bx) (Zi (cA.g i1).bx)=true from aC 19 _ _)<|HH (ao 3 2 (Zi m.bx) cI k!)<|HH (show AV.same 20 (Zi m.bx) (Zi m.bx)=true from aC 19 _ _)<|BC f2<|VV Ul<|CC<|ZZ) k!) (bW.refl aF) _ k! (fun x=>gX cy cA m f_ iW f' oW xD xC (i1+1) o! x hh aF aG cI)
   · have fK:=of_decide_eq_false f1
     have u8:=eZ 3 false true i1 1 o!
     exact aB.round (by simp only[cV,f1,ak,ah]) (pk (d+1) _ _ hh _ hh (CN 2<|VV eb<|VV (aY 3 false false .i64 ((i1:Nat):Int) ((cA.length:Nat):Int))<|BB q2<|CN 2<|VV mU<|CC<|MM mn<|CC<|MM (ao 9 1 (AV.str m.ba) cI k!)<|VV (ni 9 false false (cA.g i1).ba m.ba)<|CC<|BB f1<|BB f1<|BB f1<|BB f1<|BB f1<|BB f1<|BB f1<|BV f1 (p_ false f1)<|HH mn<|HH (show AV.same 20 (AV.str (cA.g i1).ba) (AV.str (cA.g i1).ba)=true from aP 19 _)<|HH (ao 9 1 (AV.str m.ba) cI k!)<|HH (show AV.same 20 (AV.str m.ba) (AV.str m.ba)=true from aP 19 _)<|FF<|CC<|VV u8<|CC<|ZZ) k!) (bW.refl aF) _ k! (fun x=>gX cy cA m f_ iW f' oW xD xC (i1+1) o! x hh aF aG cI)
def bw (m:aL) (cA:List aL):Int:=(bif (!(bM m.name)) then 5 else (bif (!(bM m.ba)) then 5 else (match (dH cA m cA.length 0) with | none=>(bif (!(bT m.bx)) then 1 else (bif (!(bT m.eK)) then 1 else (bif (!(bT m.bm)) then 1 else (match (cV cA m cA.length 0) with | none=>0 | some Kt=>Kt)))) | some rr6=>rr6)))
theorem yT {d:Nat} {h:ax} {cy:AV} (m:aL) (cA:List aL) (FK:aH.ok h m) (dG:aJ h cy cA) (ca:Tidy h):cT (d+2) (.fn 35) [(AV.agg [(AV.str m.name),(AV.str m.ba),(Zi m.bx),(Zi m.eK),(Zi m.bm)]),cy] h= .ret (Zi (bw m cA)) h:=by
 have qn:=dG.small
 obtain ⟨h1,br,cD,lh,aA,dC⟩:=lk ca (aK.cells [(AV.str m.name),(AV.str m.ba),(Zi m.bx),(Zi m.eK),(Zi m.bm)] 45 false)
 have bB:Has h h1:=dC
 have k2:=tb (d:=d) m.name FK.1 cD
 rcases Bool.eq_false_or_eq_true (!(bM m.name)) with f0 | f0
 · have e:bw m cA=5:=by simp only[bw,f0,ak,ah]
   rw[e]
   exact aw rfl (aI Tryz.func35 ek rfl (.inr rfl) (pk (d+1) _ _ h _ h1 (NN br (fun i=>(Pt i))<|CN 2<|MM (ao 9 0 (AV.str m.name) aA k!)<|EE k2<|CN 2<|BB f0<|BB f0<|BB f0<|BV f0 (ml true f0)<|TT<|CC<|ZZ) k!) k!) bB rfl
 · have k4:=tb (d:=d) m.ba FK.2 cD
   rcases Bool.eq_false_or_eq_true (!(bM m.ba)) with f1 | f1
   · have e:bw m cA=5:=by simp only[bw,f0,f1,ak,ah]
     rw[e]
     exact aw rfl (aI Tryz.func35 ek rfl (.inr rfl) (pk (d+1) _ _ h _ h1 (NN br (fun i=>(Pt i))<|CN 2<|MM (ao 9 0 (AV.str m.name) aA k!)<|EE k2<|CN 2<|BC f0<|BM f0 (ao 9 1 (AV.str m.ba) aA k!)<|BB f0<|EE k4<|BC f0<|VV (aE (a:=some (AV.bool true)) (b:=some (AV.bool (!(bM m.ba)))) f0)<|BC f1<|ZZ) k!) k!) bB rfl
   · cases tf:dH cA m cA.length 0 with
     | none=>
       obtain ⟨Jl,h7,mV,pU⟩:=aB.n tf (kb (d:=d) (h:=h) cy cA m h.nx dG FK.1 FK.2 FK cA.length 0 o! (fun k_=>(((AV.agg [(AV.str m.name),(AV.str m.ba),(Zi m.bx),(Zi m.eK),(Zi m.bm)])::cy::(Pt h.nx)::AV.undef::(Zi 0)::(Zi 0)::AV.undef::(Pt h.nx)::(AV.str m.name)::(AV.bool (bM m.name))::(AV.bool (!(bM m.name)))::(AV.bool (!(bM m.name)))::(AV.ptr h.nx 1)::(AV.str m.ba)::(AV.bool (bM m.ba))::(AV.bool (!(bM m.ba)))::(AV.bool (!(bM m.ba)))::jg 54):List AV).getD k_ AV.undef) h1 cD bB aA)
       have dK:=pU.y
       have XB:h1.nx≤h7.nx:=pU.n
       have cK:Has h h7:=bB.trans pU.a
       have k8:=qu (d:=d) m.bx dK
       rcases Bool.eq_false_or_eq_true (!(bT m.bx)) with f3 | f3
       · have e:bw m cA=1:=by simp only[bw,f0,f1,tf,f3,ak,ah]
         rw[e]
         exact aw rfl (aI Tryz.func35 ek rfl (.inr rfl) (pk (d+1) _ _ h _ h7 (NN br (fun i=>(Pt i))<|CN 2<|MM (ao 9 0 (AV.str m.name) aA k!)<|EE k2<|CN 2<|BC f0<|BM f0 (ao 9 1 (AV.str m.ba) aA k!)<|BB f0<|EE k4<|BC f0<|VV (aE (a:=some (AV.bool true)) (b:=some (AV.bool (!(bM m.ba)))) f0)<|BC f1<|LL mV<|CC<|MM (ao 3 2 (Zi m.bx) (pU.a _ _ aA) k!)<|EE k8<|CN 2<|BB f3<|BB f3<|BB f3<|BV f3 (ml true f3)<|CC<|TT<|TT<|TT<|TT<|CC<|TT<|CC<|ZZ) k!) k!) cK rfl
       · have xb:=qu (d:=d) m.eK dK
         rcases Bool.eq_false_or_eq_true (!(bT m.eK)) with f4 | f4
         · have e:bw m cA=1:=by simp only[bw,f0,f1,tf,f3,f4,ak,ah]
           rw[e]
           exact aw rfl (aI Tryz.func35 ek rfl (.inr rfl) (pk (d+1) _ _ h _ h7 (NN br (fun i=>(Pt i))<|CN 2<|MM (ao 9 0 (AV.str m.name) aA k!)<|EE k2<|CN 2<|BC f0<|BM f0 (ao 9 1 (AV.str m.ba) aA k!)<|BB f0<|EE k4<|BC f0<|VV (aE (a:=some (AV.bool true)) (b:=some (AV.bool (!(bM m.ba)))) f0)<|BC f1<|LL mV<|CC<|MM (ao 3 2 (Zi m.bx) (pU.a _ _ aA) k!)<|EE k8<|CN 2<|BC f3<|BM f3 (ao 3 3 (Zi m.eK) (pU.a _ _ aA) k!)<|BB f3<|EE xb<|BC f3<|VV (aE (a:=some (AV.bool true)) (b:=some (AV.bool (!(bT m.eK)))) f3)<|CC<|BB f4<|BB f4<|BB f4<|BV f4 (ml true f4)<|TT<|CC<|ZZ) k!) k!) cK rfl
         · have Jg:=qu (d:=d) m.bm dK
           rcases Bool.eq_false_or_eq_true (!(bT m.bm)) with f5 | f5
           · have e:bw m cA=1:=by simp only[bw,f0,f1,tf,f3,f4,f5,ak,ah]
             rw[e]
             exact aw rfl (aI Tryz.func35 ek rfl (.inr rfl) (pk (d+1) _ _ h _ h7 (NN br (fun i=>(Pt i))<|CN 2<|MM (ao 9 0 (AV.str m.name) aA k!)<|EE k2<|CN 2<|BC f0<|BM f0 (ao 9 1 (AV.str m.ba) aA k!)<|BB f0<|EE k4<|BC f0<|VV (aE (a:=some (AV.bool true)) (b:=some (AV.bool (!(bM m.ba)))) f0)<|BC f1<|LL mV<|CC<|MM (ao 3 2 (Zi m.bx) (pU.a _ _ aA) k!)<|EE k8<|CN 2<|BC f3<|BM f3 (ao 3 3 (Zi m.eK) (pU.a _ _ aA) k!)<|BB f3<|EE xb<|BC f3<|VV (aE (a:=some (AV.bool true)) (b:=some (AV.bool (!(bT m.eK)))) f3)<|CC<|BC f4<|BM f4 (ao 3 4 (Zi m.bm) (pU.a _ _ aA) k!)<|BB f4<|EE Jg<|BC f4<|VV (aE (a:=some (AV.bool true)) (b:=some (AV.bool (!(bT m.bm)))) f4)<|BC f5<|ZZ) k!) k!) cK rfl
           · cases mo:cV cA m cA.length 0 with
             | none=>
               obtain ⟨BY,qa,py,jz⟩:=aB.n mo (gX (d:=d) (h:=h) cy cA m h.nx dG FK.1 FK.2 FK cA.length 0 o! (fun k_=>(((Jl 0)::cy::(Pt h.nx)::rx Jl 3 3 ((Zi 0)::rx Jl 7 24 ((AV.ptr h.nx 2)::(Zi m.bx)::(AV.bool (bT m.bx))::(AV.bool (!(bT m.bx)))::(AV.bool (!(bT m.bx)))::(AV.ptr h.nx 3)::(Zi m.eK)::(AV.bool (bT m.eK))::(AV.bool (!(bT m.eK)))::(AV.bool (!(bT m.eK)))::(AV.bool (!(bT m.eK)))::(AV.ptr h.nx 4)::(Zi m.bm)::(AV.bool (bT m.bm))::(AV.bool (!(bT m.bm)))::(AV.bool (!(bT m.bm)))::rx Jl 47 24 []))):List AV).getD k_ AV.undef) h7 dK cK (pU.a _ _ aA))
               have tg:=jz.y
               have Mb:h7.nx≤qa.nx:=jz.n
               have m4:Has h qa:=cK.trans jz.a
               have QF:Has h7 qa:=jz.a
               have e:bw m cA=0:=by simp only[bw,f0,f1,tf,f3,f4,f5,mo,ak,ah]
               rw[e]
               exact aw rfl (aI Tryz.func35 ek rfl (.inr rfl) (pk (d+1) _ _ h _ qa (NN br (fun i=>(Pt i))<|CN 2<|MM (ao 9 0 (AV.str m.name) aA k!)<|EE k2<|CN 2<|BC f0<|BM f0 (ao 9 1 (AV.str m.ba) aA k!)<|BB f0<|EE k4<|BC f0<|VV (aE (a:=some (AV.bool true)) (b:=some (AV.bool (!(bM m.ba)))) f0)<|BC f1<|LL mV<|CC<|MM (ao 3 2 (Zi m.bx) (pU.a _ _ aA) k!)<|EE k8<|CN 2<|BC f3<|BM f3 (ao 3 3 (Zi m.eK) (pU.a _ _ aA) k!)<|BB f3<|EE xb<|BC f3<|VV (aE (a:=some (AV.bool true)) (b:=some (AV.bool (!(bT m.eK)))) f3)<|CC<|BC f4<|BM f4 (ao 3 4 (Zi m.bm) (pU.a _ _ aA) k!)<|BB f4<|EE Jg<|BC f4<|VV (aE (a:=some (AV.bool true)) (b:=some (AV.bool (!(bT m.bm)))) f4)<|BC f5<|LL py<|CC<|ZZ) k!) k!) m4 rfl
             | some Kt=>
               obtain ⟨BY,qa,py,jz⟩:=aB.r mo (gX (d:=d) (h:=h) cy cA m h.nx dG FK.1 FK.2 FK cA.length 0 o! (fun k_=>(((Jl 0)::cy::(Pt h.nx)::rx Jl 3 3 ((Zi 0)::rx Jl 7 24 ((AV.ptr h.nx 2)::(Zi m.bx)::(AV.bool (bT m.bx))::(AV.bool (!(bT m.bx)))::(AV.bool (!(bT m.bx)))::(AV.ptr h.nx 3)::(Zi m.eK)::(AV.bool (bT m.eK))::(AV.bool (!(bT m.eK)))::(AV.bool (!(bT m.eK)))::(AV.bool (!(bT m.eK)))::(AV.ptr h.nx 4)::(Zi m.bm)::(AV.bool (bT m.bm))::(AV.bool (!(bT m.bm)))::(AV.bool (!(bT m.bm)))::rx Jl 47 24 []))):List AV).getD k_ AV.undef) h7 dK cK (pU.a _ _ aA))
               have tg:=jz.y
               have Mb:h7.nx≤qa.nx:=jz.n
               have m4:Has h qa:=cK.trans jz.a
               have QF:Has h7 qa:=jz.a
               have e:bw m cA=Kt:=by simp only[bw,f0,f1,tf,f3,f4,f5,mo,ak,ah]
               rw[e]
               exact aw rfl (aI Tryz.func35 ek rfl (.inr rfl) (pk (d+1) _ _ h _ qa (NN br (fun i=>(Pt i))<|CN 2<|MM (ao 9 0 (AV.str m.name) aA k!)<|EE k2<|CN 2<|BC f0<|BM f0 (ao 9 1 (AV.str m.ba) aA k!)<|BB f0<|EE k4<|BC f0<|VV (aE (a:=some (AV.bool true)) (b:=some (AV.bool (!(bM m.ba)))) f0)<|BC f1<|LL mV<|CC<|MM (ao 3 2 (Zi m.bx) (pU.a _ _ aA) k!)<|EE k8<|CN 2<|BC f3<|BM f3 (ao 3 3 (Zi m.eK) (pU.a _ _ aA) k!)<|BB f3<|EE xb<|BC f3<|VV (aE (a:=some (AV.bool true)) (b:=some (AV.bool (!(bT m.eK)))) f3)<|CC<|BC f4<|BM f4 (ao 3 4 (Zi m.bm) (pU.a _ _ aA) k!)<|BB f4<|EE Jg<|BC f4<|VV (aE (a:=some (AV.bool true)) (b:=some (AV.bool (!(bT m.bm)))) f4)<|BC f5<|LL py<|ZZ) k!) k!) m4 rfl
     | some rr6=>
       obtain ⟨Jl,h7,mV,pU⟩:=aB.r tf (kb (d:=d) (h:=h) cy cA m h.nx dG FK.1 FK.2 FK cA.length 0 o! (fun k_=>(((AV.agg [(AV.str m.name),(AV.str m.ba),(Zi m.bx),(Zi m.eK),(Zi m.bm)])::cy::(Pt h.nx)::AV.undef::(Zi 0)::(Zi 0)::AV.undef::(Pt h.nx)::(AV.str m.name)::(AV.bool (bM m.name))::(AV.bool (!(bM m.name)))::(AV.bool (!(bM m.name)))::(AV.ptr h.nx 1)::(AV.str m.ba)::(AV.bool (bM m.ba))::(AV.bool (!(bM m.ba)))::(AV.bool (!(bM m.ba)))::jg 54):List AV).getD k_ AV.undef) h1 cD bB aA)
       have dK:=pU.y
       have XB:h1.nx≤h7.nx:=pU.n
       have cK:Has h h7:=bB.trans pU.a
       have e:bw m cA=rr6:=by simp only[bw,f0,f1,tf,ak,ah]
       rw[e]
       exact aw rfl (aI Tryz.func35 ek rfl (.inr rfl) (pk (d+1) _ _ h _ h7 (NN br (fun i=>(Pt i))<|CN 2<|MM (ao 9 0 (AV.str m.name) aA k!)<|EE k2<|CN 2<|BC f0<|BM f0 (ao 9 1 (AV.str m.ba) aA k!)<|BB f0<|EE k4<|BC f0<|VV (aE (a:=some (AV.bool true)) (b:=some (AV.bool (!(bM m.ba)))) f0)<|BC f1<|LL mV<|ZZ) k!) k!) cK rfl
end
end Go.Proofs.aM
