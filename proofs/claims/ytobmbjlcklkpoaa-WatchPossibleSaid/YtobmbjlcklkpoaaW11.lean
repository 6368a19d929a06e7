import Derived.Test.YtobmbjlcklkpoaaW0
import Derived.Test.YtobmbjlcklkpoaaW10
import Derived.Test.YtobmbjlcklkpoaaW3
import Derived.Test.YtobmbjlcklkpoaaW7
import Derived.Test.YtobmbjlcklkpoaaA8
import Derived.Test.YtobmbjlcklkpoaaW5
import Derived.Test.YtobmbjlcklkpoaaW8
namespace Go.Proofs.aJ
open Go.Proofs Ab
noncomputable section
set_option maxRecDepth 100000
set_option maxHeartbeats 4000000
set_option linter.unusedVariables false
set_option linter.unusedSimpArgs false
def JL:Code:=(Try.f68.body).getD .skip
theorem SX:Try.f68.body=some JL:=by kernel_rfl
def ji (x_:Int):Int:=(tG x_)
theorem JM {d:Nat} {h:aw} (x_:Int) (bH:Tidy h):cJ (d+2) (.fn 68) [(AV.int .u64 x_)] h= .ret (Zi (ji x_)) h:=by
 have k1:=Ly (d:=d) x_ bH
 have e:ji x_=(tG x_):=by simp only[ji,aj,ai]
 rw[e]
 exact az rfl (a_ Try.func68 SX rfl (.inr rfl) (pk (d+1) _ _ h _ h (CC<|FF<|CC<|EE k1<|CC<|ZZ) k!) k!) (Has.refl _) rfl
structure Yl (call:bj) (b:Nat) (ok:List AV→Prop) (I:List (List AV)→(Nat→Prop)→aw→Prop):Prop where
 aP:∀{L P hh},I L P hh→∀k,P k→k<hh.nx
 stay:∀{L P hh hk},I L P hh→Tidy hk→hh.nx≤hk.nx→(∀k w,P k→hh.get k=some w→hk.get k=some w)→I L P hk
 next:∀{L a P hh},L.length<1000→ok a→I L P hh→Tidy hh→∃hk P',call (.vg b) a hh= .ret (.bool true) hk∧Tidy hk∧hh.nx≤hk.nx∧I (L++[a]) P' hk∧(∀k,P' k→P k∨hh.nx≤k)∧∀k w,¬P k→hh.get k=some w→hk.get k=some w
def Left (P:Nat→Prop) (h hk:aw):Prop:=∀k w,¬P k→h.get k=some w→hk.get k=some w
theorem Left.refl (P:Nat→Prop) (h:aw):Left P h h:=fun _ _ _ q=>q
def yT:Code:=(Try.f67.body).getD .skip
theorem aag:Try.f67.body=some yT:=by kernel_rfl
def CA:Code:=(ck yT).getD 0 .skip
theorem SY {n:Int} (h0:0≤n) (h:n≤8):0≤eB .u64 1 n∧eB .u64 1 n≤1000:=by
 obtain ⟨k,rfl⟩:∃k:Nat,n=k:=⟨n.toNat,by omega⟩
 have:∀k:Nat,k<9→0≤eB .u64 1 (k:Nat)∧eB .u64 1 (k:Nat)≤1000:=by decide+kernel
 exact this k o!
def tH (m:Int):Nat→Nat→List (List AV)
 | 0,_=> []
 | k+1,s=>bif decide (ji ((s:Nat):Int)=m) then [AV.int .u64 ((s:Nat):Int)]::tH m k (s+1) else tH m k (s+1)
theorem yU {d:Nat} {b bn bm:Nat} {n m N:Int} {ok:List AV→Prop} {I:List (List AV)→(Nat→Prop)→aw→Prop} (yl:Yl (cJ (d+2)) b ok I) (kH:∀s:Nat,(s:Int)<N→decide (ji ((s:Nat):Int)=m)=true→ok [AV.int .u64 ((s:Nat):Int)]) (hN:N≤1000):∀(k s0:Nat) (L:List (List AV)) (P:Nat→Prop) (x:Nat→AV) (hh:aw) (aL:Tidy hh) (gn:hh.get bn=some (.cells [Zi n] 3 false)) (gm:hh.get bm=some (.cells [Zi m] 3 false)) (hi:I L P hh) (Wq:¬P bn) (Wr:¬P bm),L.length+k≤1000→(s0:Int)+k=N→
 cP (σ:=Unit) (ζ:=Unit) (cJ (d+2)) CA ⟨((AV.cQ b)::(Pt bn)::(Pt bm)::rx x 3 3 ((AV.int .u64 N)::(AV.int .u64 ((s0:Nat):Int))::rx x 8 13 [])),hh,[],.no⟩ (.exit 0) hh (fun _ _ y=>rx y 0 21 []) (fun _ _ hk=>∃P',I (L++tH m k s0) P' hk∧(∀j,P' j→P j∨hh.nx≤j)∧Left P hh hk) ()
 | 0,s0,L,P,x,hh,aL,gn,gm,hi,Wq,Wr,hLk,jZ=>by
   have q1:(decide (((s0:Nat):Int)<N))=false:=d!
   exact cP.out () () rfl (pk (d+2) _ _ hh _ hh (VV (bz 51 false false .u64 ((s0:Nat):Int) N)<|BB q1<|ZZ) k!) aL (Nat.le_refl _) ⟨P,by rw[tH,List.append_nil];exact hi,fun _ h=> .inl h,Left.refl _ _⟩ k!
 | k+1,s0,L,P,x,hh,aL,gn,gm,hi,Wq,Wr,hLk,jZ=>by
   have T1:=aL _ _ gn
   have T2:=aL _ _ gm
   rcases Bool.eq_false_or_eq_true (decide ((ji ((s0:Nat):Int))=m)) with f | f
   · skip
     have q1:(decide (((s0:Nat):Int)<N))=true:=d!
     have k2:=JM (d:=d) ((s0:Nat):Int) aL
     have q3:(decide ((ji ((s0:Nat):Int))=m))=true:=f
     obtain ⟨h4,afr,afs,ng,R1,afu,Ws,SZ⟩:=yl.next (L:=L) (P:=P) o! (kH s0 o! f) hi aL
     have u5:cD env .add 51 false true (some (AV.int .u64 ((s0:Nat):Int))) (some (AV.int .u64 1))=some (AV.int .u64 ((s0+1:Nat):Int)):=zB (a:=s0) (b:=1) o!
     have ev:=pk (d+2) CA ((AV.cQ b)::(Pt bn)::(Pt bm)::rx x 3 3 ((AV.int .u64 N)::(AV.int .u64 ((s0:Nat):Int))::rx x 8 13 [])) hh .normal h4 (VV (bz 51 false false .u64 ((s0:Nat):Int) N)<|BB q1<|CN 3<|MM (aB 3 0 (Zi m) gm k!)<|EE k2<|VV (fh 3 false false .i64 (ji ((s0:Nat):Int)) m)<|CC<|BC q3<|BC q3<|BB q3<|AA (.e (.bool true) h4)<|HH afs<|BC q3<|VV (jA false false q3)<|HH (aB 3 0 (Zi m) gm k!)<|HH (show AV.same 20 (Zi m) (Zi m)=true from aG 19 _ _)<|HH (aB 3 0 (Zi m) gm k!)<|HH (show AV.same 20 (Zi m) (Zi m)=true from aG 19 _ _)<|FF<|VV u5<|CC<|ZZ) k!
     refine cP.round rfl ev o! _ k! (fun x=>cP.R2 (yU yl kH hN k (s0+1) (L++[[AV.int .u64 ((s0:Nat):Int)]]) afr x h4 ng (SZ _ _ Wq gn) (SZ _ _ Wr gm) afu (fun h=>(Ws _ h).elim Wq o!) (fun h=>(Ws _ h).elim Wr o!) (by rw[List.length_append,List.length_singleton];omega) o!) fun _ hk hn q=>?_)
     obtain ⟨P',a1,a2,a3⟩:=q
     refine ⟨P',?_,fun j hj=>?_,fun j w hj gw=>a3 _ _ (fun h=>(Ws _ h).elim hj (by have:=aL _ _ gw;omega)) (SZ _ _ hj gw)⟩
     · rw[tH,f,aj]
       rw[List.append_assoc] at a1;exact a1
     · rcases a2 j hj with h | h
       · exact Ws j h
       · exact .inr o!
   · skip
     have q1:(decide (((s0:Nat):Int)<N))=true:=d!
     have k2:=JM (d:=d) ((s0:Nat):Int) aL
     have q3:(decide ((ji ((s0:Nat):Int))=m))=false:=f
     have u4:cD env .add 51 false true (some (AV.int .u64 ((s0:Nat):Int))) (some (AV.int .u64 1))=some (AV.int .u64 ((s0+1:Nat):Int)):=zB (a:=s0) (b:=1) o!
     have ev:=pk (d+2) CA ((AV.cQ b)::(Pt bn)::(Pt bm)::rx x 3 3 ((AV.int .u64 N)::(AV.int .u64 ((s0:Nat):Int))::rx x 8 13 [])) hh .normal hh (VV (bz 51 false false .u64 ((s0:Nat):Int) N)<|BB q1<|CN 3<|MM (aB 3 0 (Zi m) gm k!)<|EE k2<|VV (fh 3 false false .i64 (ji ((s0:Nat):Int)) m)<|CC<|BB q3<|BB q3<|BB q3<|BV q3 (pN false q3)<|HH (aB 3 0 (Zi m) gm k!)<|HH (show AV.same 20 (Zi m) (Zi m)=true from aG 19 _ _)<|HH (aB 3 0 (Zi m) gm k!)<|HH (show AV.same 20 (Zi m) (Zi m)=true from aG 19 _ _)<|FF<|VV u4<|CC<|ZZ) k!
     refine cP.round rfl ev o! _ k! (fun x=>cP.R2 (yU yl kH hN k (s0+1) L P x hh aL gn gm hi Wq Wr o! o!) fun _ hk hn q=>?_)
     obtain ⟨P',a1,a2,a3⟩:=q
     exact ⟨P',by rw[tH,f,ai];exact a1,a2,a3⟩
theorem aah {d:Nat} {b bn bm:Nat} {n m:Int} {ok:List AV→Prop} {I:List (List AV)→(Nat→Prop)→aw→Prop} (yl:Yl (cJ (d+2)) b ok I) (kH:∀s:Nat,(s:Int)<eB .u64 1 n→decide (ji ((s:Nat):Int)=m)=true→ok [AV.int .u64 ((s:Nat):Int)]) (h0:0≤n) (hn:n≤8) {P:Nat→Prop} {hh:aw} (aL:Tidy hh) (gn:hh.get bn=some (.cells [Zi n] 3 false)) (gm:hh.get bm=some (.cells [Zi m] 3 false)) (hi:I [] P hh) (Wq:¬P bn) (Wr:¬P bm):
 ∃hk h' P',cJ (d+3) (.fn 67) [.cQ b,.ptr bn 0,.ptr bm 0] hh= .ret (.tuple []) hk∧Tidy h'∧hh.nx≤h'.nx∧I (tH m (eB .u64 1 n).toNat 0) P' h'∧(∀j,P' j→P j∨hh.nx≤j)∧Left P hh h'∧(hk=h'∨(hk=hh∧Has hh h')):=by
 have u1:cD env .shl 51 true false (some (AV.int .u64 1)) (some (Zi n))=some (AV.int .u64 (eB .u64 1 n)):=tf 51 true false .u64 .i64 o!
 obtain ⟨_,Un,h2,vI,fJ,Jm,afv,afw,afx,acS⟩:=yU (d:=d) (N:=(eB .u64 1 n)) yl kH (SY h0 hn).2 (eB .u64 1 n).toNat 0 [] P (fun k_=>(((AV.cQ b)::(Pt bn)::(Pt bm)::AV.undef::AV.undef::(Zi n)::(AV.int .u64 (eB .u64 1 n))::(AV.int .u64 0)::jl 13):List AV).getD k_ AV.undef) hh aL gn gm hi Wq Wr (by have:=(SY h0 hn).2;rw[List.length_nil];omega) (by have:=(SY h0 hn).1;omega)
 have ev:=pk (d+2) yT ((AV.cQ b)::(Pt bn)::(Pt bm)::jl 18) hh .normal h2 (MM (aB 3 0 (Zi n) gn k!)<|VV u1<|CC<|LL vI<|ZZ) k!
 obtain ⟨hk,e,q⟩:=lu rfl (a_ (v:= .tuple []) Try.func67 aag k! (.inl rfl) ev k!)
 exact ⟨hk,h2,afv,e,fJ,Jm,afw,afx,acS,q⟩
def Wu:Code:=(Try.f43.body).getD .skip
theorem afy:Try.f43.body=some Wu:=by kernel_rfl
theorem afz {d:Nat} {n m:Int} {h:aw} (bH:Tidy h):
 ∃bn bm hk,cJ (d+2) (.fn 43) [Zi n,Zi m] h= .ret (.func 67 [] [Pt bn,Pt bm]) hk∧Tidy hk∧h.nx≤hk.nx∧Has h hk∧hk.get bn=some (.cells [Zi n] 3 false)∧hk.get bm=some (.cells [Zi m] 3 false)∧h.nx≤bn∧h.nx≤bm:=by
 obtain ⟨h1,bD,bN,fX,aH,bZ⟩:=gu bH (aY.cells [(Zi n)] 3 false)
 obtain ⟨h2,iQ,fJ,uA,dh,dz⟩:=gu bN (aY.cells [(Zi m)] 3 false)
 exact ⟨_,_,_,oc rfl (a_ Try.func43 afy rfl (.inr rfl) (pk (d+1) _ _ h _ h2 (NN bD (fun i=>(Pt i))<|NN iQ (fun i=>(Pt i))<|CN 3<|ZZ) k!) k!) (fun q=>by cases q.2),fJ,by omega,(bZ.trans dz),dz _ _ aH,dh,by omega,by omega⟩
def Lz:Code:=(Try.f46.body).getD .skip
theorem Wv:Try.f46.body=some Lz:=by kernel_rfl
def xM (s:Int) (aN:Int):Bool:=(decide ((ah .u64 (au .u64 s aN) 1)=1))
theorem Nw {d:Nat} {h:aw} (s:Int) (aN:Int) (jP:0≤aN) (bH:Tidy h):cJ (d+1) (.fn 46) [(AV.int .u64 s),(Zi aN)] h= .ret (AV.bool (xM s aN)) h:=by
 have u1:cD env .shr 51 false false (some (AV.int .u64 s)) (some (Zi aN))=some (AV.int .u64 (au .u64 s aN)):=mh 51 false false .u64 .i64 o!
 have u2:cD env .and 51 false true (some (AV.int .u64 (au .u64 s aN))) (some (AV.int .u64 1))=some (AV.int .u64 (ah .u64 (au .u64 s aN) 1)):=jR 51 false true .u64 (au .u64 s aN) 1
 have e:xM s aN=(decide ((ah .u64 (au .u64 s aN) 1)=1)):=by simp only[xM,aj,ai]
 rw[e]
 exact az rfl (a_ Try.func46 Wv rfl (.inr rfl) (pk (d) _ _ h _ h (CN 3<|VV u1<|VV u2<|VV (fh 51 false true .u64 (ah .u64 (au .u64 s aN) 1) 1)<|CC<|ZZ) k!) k!) (Has.refl _) rfl
def Am:Code:=(Try.f33.body).getD .skip
theorem GH:Try.f33.body=some Am:=by kernel_rfl
def bw (time:Int):Gate:=(⟨time,(-9223372036854775808),9223372036854775807⟩:Gate)
theorem xN {d:Nat} {h:aw} (time:Int) (bH:Tidy h):cJ (d+1) (.fn 33) [(Zi time)] h= .ret (AV.agg [(Zi (bw time).time),(Zi (bw time).aq),(Zi (bw time).ak)]) h:=by
 obtain ⟨h1,bD,bN,fX,aH,bZ⟩:=gu bH (aY.cells [(Zi 0),(Zi 0),(Zi 0)] 67 false)
 have bk:Has h h1:=bZ
 obtain ⟨h2,afA,fJ,uA,dh,Cx⟩:=pM (t:=67) (n:=3) (i:=h.nx) (L:=[(Zi time),(Zi (-9223372036854775808)),(Zi 9223372036854775807)]) bN aH k! rfl rfl (by simp only[AV.cells,List.all_cons,List.all_nil,Bool.and_true,Bool.and_self,eI,dt,eJ,eK,cI,gU,gV,gW,gX,gY,eL])
 have fl:Has h h2:=Has.cm bk Cx bH o!
 have e:bw time=(⟨time,(-9223372036854775808),9223372036854775807⟩:Gate):=by simp only[bw,aj,ai]
 rw[e]
 exact az rfl (h_ (a:=2) (t:=67) (i:=h.nx) Try.func33 GH rfl (.inr rfl) (pk (d) _ _ h _ h2 (NN bD (fun i=>(Pt i))<|CN 3<|SS afA<|ZZ) k!) k! (kL dh k!)) fl rfl
def Dq:Code:=(Try.f44.body).getD .skip
theorem CB:Try.f44.body=some Dq:=by kernel_rfl
def eU (q:ay) (r:aM) (failed:Int):Gate:=(bif (xM failed r.aN) then (bw r.time) else (⟨r.time,(IntKind.i64.wrap (r.value -(gB (q.ar.g r.aN.toNat) r.time))),(IntKind.i64.wrap (r.value+(gB (q.ar.g r.aN.toNat) r.time)))⟩:Gate))
theorem LA {d:Nat} {h:aw} (q:ay) (r:aM) (failed:Int) (eP:aA.ok h q) (h_r:aA.ok h r) (jP:0≤r.aN) (OM:r.aN<(q.ar.length:Int)) (bH:Tidy h):cJ (d+2) (.fn 44) [(AV.agg [(AV.str q.name),(Zi q.af),(Zi q.ab),(Zi q.aC),(Zi q.aD),(Zi q.bad),q.ao]),(AV.agg [(Zi r.aN),(Zi r.time),(Zi r.value)]),(AV.int .u64 failed)] h= .ret (AV.agg [(Zi (eU q r failed).time),(Zi (eU q r failed).aq),(Zi (eU q r failed).ak)]) h:=by
 have fW:=eP.2.small
 obtain ⟨h1,bD,bN,fX,aH,bZ⟩:=gu bH (aY.cells [(AV.str q.name),(Zi q.af),(Zi q.ab),(Zi q.aC),(Zi q.aD),(Zi q.bad),q.ao] 26 false)
 have bk:Has h h1:=bZ
 obtain ⟨h2,iQ,fJ,uA,dh,dz⟩:=gu bN (aY.cells [(Zi r.aN),(Zi r.time),(Zi r.value)] 44 false)
 have fl:Has h h2:=bk.trans dz
 obtain ⟨h3,s7,eZ,I4,oR,dL⟩:=gu fJ (aY.cells [(Zi 0),(Zi 0),(Zi 0)] 67 false)
 have fu:Has h h3:=fl.trans dL
 have k4:=Nw (d:=d) failed r.aN (by first | omega | assumption | (simp only[List.length_set,List.length_replicate,List.length_append,List.length_cons,List.length_nil,List.nil_append]<;>omega) | (rw[List.length_take];omega)) eZ
 rcases Bool.eq_false_or_eq_true (xM failed r.aN) with f0 | f0
 · have k6:=xN (d:=d) r.time eZ
   obtain ⟨h7,pS,iR,Dd,kf,dN⟩:=pM (t:=67) (n:=3) (i:=h2.nx) (L:=[(Zi (bw r.time).time),(Zi (bw r.time).aq),(Zi (bw r.time).ak)]) eZ oR k! rfl rfl (by simp only[AV.cells,List.all_cons,List.all_nil,Bool.and_true,Bool.and_self,eI,dt,eJ,eK,cI,gU,gV,gW,gX,gY,eL])
   have hI:Has h h7:=Has.cm fu dN bH o!
   have e:eU q r failed=(bw r.time):=by simp only[eU,f0,aj,ai]
   rw[e]
   exact az rfl (h_ (a:=6) (t:=67) (i:=h2.nx) Try.func44 CB rfl (.inr rfl) (pk (d+1) _ _ h _ h7 (NN bD (fun i=>(Pt i))<|NN iQ (fun i=>(Pt i))<|NN s7 (fun i=>(Pt i))<|CN 2<|MM (aB 3 0 (Zi r.aN) (dL _ _ dh) k!)<|EE k4<|BC f0<|MM (aB 3 1 (Zi r.time) (dL _ _ dh) k!)<|EE k6<|SS pS<|ZZ) k!) k! (kL kf k!)) hI rfl
 · obtain ⟨p7,q8,RR⟩:=eP.2.elem (i:=r.aN.toNat) o!
   have D6:di env (some (.slice 63)) (some q.ao) (some (Zi r.aN))=some (AV.ptr p7 q8):=by rw[show (r.aN:Int)=((r.aN.toNat:Nat):Int) by omega];exact RR
   have Pu:bA env h3 63 (AV.ptr p7 q8)=some (AV.agg [(AV.str (q.ar.g r.aN.toNat).name),(Zi (q.ar.g r.aN.toNat).acc),(Zi (q.ar.g r.aN.toNat).bR),(Zi (q.ar.g r.aN.toNat).since)]):=(eP.2.has fu).load o! RR
   have k10:=zO (d:=d) (q.ar.g r.aN.toNat) r.time (aA.mono fu (eP.2.ok (i:=r.aN.toNat) o!)) eZ
   have Xy:AV.same 20 q.ao q.ao=true:=eP.2.same 19
   have IW:AV.same 20 (AV.agg [(AV.str (q.ar.g r.aN.toNat).name),(Zi (q.ar.g r.aN.toNat).acc),(Zi (q.ar.g r.aN.toNat).bR),(Zi (q.ar.g r.aN.toNat).since)]) (AV.agg [(AV.str (q.ar.g r.aN.toNat).name),(Zi (q.ar.g r.aN.toNat).acc),(Zi (q.ar.g r.aN.toNat).bR),(Zi (q.ar.g r.aN.toNat).since)])=true:=dx 18 (hD (fun n=>iJ n _) (hD (fun n=>aG n _ _) (hD (fun n=>aG n _ _) (hD (fun n=>aG n _ _) AF))))
   obtain ⟨uT,acT,tc,agI,acU,aai⟩:=pM (t:=67) (n:=3) (i:=h2.nx) (L:=[(Zi r.time),(Zi (IntKind.i64.wrap (r.value -(gB (q.ar.g r.aN.toNat) r.time)))),(Zi (IntKind.i64.wrap (r.value+(gB (q.ar.g r.aN.toNat) r.time))))]) eZ oR k! rfl rfl (by simp only[AV.cells,List.all_cons,List.all_nil,Bool.and_true,Bool.and_self,eI,dt,eJ,eK,cI,gU,gV,gW,gX,gY,eL])
   have oT:Has h uT:=Has.cm fu aai bH o!
   have e:eU q r failed=(⟨r.time,(IntKind.i64.wrap (r.value -(gB (q.ar.g r.aN.toNat) r.time))),(IntKind.i64.wrap (r.value+(gB (q.ar.g r.aN.toNat) r.time)))⟩:Gate):=by simp only[eU,f0,aj,ai]
   rw[e]
   exact az rfl (h_ (a:=6) (t:=67) (i:=h2.nx) Try.func44 CB rfl (.inr rfl) (pk (d+1) _ _ h _ uT (NN bD (fun i=>(Pt i))<|NN iQ (fun i=>(Pt i))<|NN s7 (fun i=>(Pt i))<|CN 2<|MM (aB 3 0 (Zi r.aN) (dL _ _ dh) k!)<|EE k4<|BC f0<|MM (aB 24 6 q.ao (dL _ _ (dz _ _ aH)) k!)<|CC<|MM (aB 3 0 (Zi r.aN) (dL _ _ dh) k!)<|VV D6<|MM Pu<|CC<|MM (aB 3 1 (Zi r.time) (dL _ _ dh) k!)<|EE k10<|CC<|HH (aB 24 6 q.ao (dL _ _ (dz _ _ aH)) k!)<|HH Xy<|HH (aB 3 0 (Zi r.aN) (dL _ _ dh) k!)<|HH (show AV.same 20 (Zi r.aN) (Zi r.aN)=true from aG 19 _ _)<|HH Pu<|HH IW<|HH (aB 3 1 (Zi r.time) (dL _ _ dh) k!)<|HH (show AV.same 20 (Zi r.time) (Zi r.time)=true from aG 19 _ _)<|CC<|MM (aB 3 1 (Zi r.time) (dL _ _ dh) k!)<|CC<|MM (aB 3 2 (Zi r.value) (dL _ _ dh) k!)<|CN 3<|MM (aB 3 2 (Zi r.value) (dL _ _ dh) k!)<|CN 4<|SS acT<|ZZ) k!) k! (kL acU k!)) oT rfl
structure YlH {X:Type} (call:bj) (b:Nat) (ok:aw→List AV→X→Prop) (I:List X→(Nat→Prop)→aw→Prop):Prop where
 aP:∀{L P hh},I L P hh→∀k,P k→k<hh.nx
 stay:∀{L P hh hk},I L P hh→Tidy hk→hh.nx≤hk.nx→(∀k w,P k→hh.get k=some w→hk.get k=some w)→I L P hk
 next:∀{L a x P hh},L.length<1000→ok hh a x→I L P hh→Tidy hh→∃hk P',call (.vg b) a hh= .ret (.bool true) hk∧Tidy hk∧hh.nx≤hk.nx∧I (L++[x]) P' hk∧(∀k,P' k→P k∨hh.nx≤k)∧∀k w,¬P k→hh.get k=some w→hk.get k=some w
theorem bu.sl {α:Type} [aA α] {h0 h:aw} {z:AV} {l:List α} (o:bu h0 h z l) (hn:l≠ []):∃p op,z= .slice p 0 l.length l.length op∧h0.nx≤p∧h.get p=some (.cells (l.flatMap aA.c) (aA.e α) false):=by
 rcases o with ⟨_,rfl⟩ | ⟨_,p,op,e,hp,hg⟩
 · exact absurd rfl hn
 · exact ⟨p,op,e,hp,hg⟩
theorem bG.ne {z:AV} {k p o n c:Nat} {b:Bool} (ni:bG z k) (e:z= .slice p o n c b):k≠p:=fun q=>ni _ _ _ _ (by rw[e,q])
def pa:Code:=(Try.f42.body).getD .skip
theorem acV:Try.f42.body=some pa:=by kernel_rfl
def f_:Code:=(ck pa).getD 0 .skip
def GI:Code:=(ck pa).getD 1 .skip
def cH (q:ay) (l:List aM) (s0:Int):Nat→Nat→List Gate→List Gate
 | 0,_,vU=>vU
 | bC+1,i1,vU=>cH q l s0 bC (i1+1) (vU++[(eU q (l.g i1) s0)])
theorem CD {d:Nat} {rc:RC} {h:aw} (s0:Int) (lv:AV) (l:List aM) (q:ay) (rv:AV) (b:Nat) (r:List Gate) (dC:Nat) (iA:Nat) (yV:Nat) (yW:Nat) (mz:aQ h lv l) (ql:q.name.length<2^60) (s9:aQ h q.ao q.ar) (aaj:aQ h rv r) (vF:aA.ok h q) (LB:∀k,k<l.length→0≤(l.g k).aN∧(l.g k).aN<(q.ar.length:Int)) (S1:l.length≤12) (bH:Tidy h) (Cs:dC<h.nx) (Wj:iA<h.nx) (afB:yV<h.nx) (afC:yW<h.nx) (Lu:iA≠dC) (aak:yV≠dC) (aal:yV≠iA) (aam:yW≠dC) (aan:yW≠iA) (aao:yW≠yV):∀(k_ i_:Nat) (vU:List Gate) (yX:AV) (_:i_+k_=l.length) (x:Nat→AV) (hh:aw) (aL:Tidy hh) (aX:Has h hh) (gI:h.nx≤hh.nx) (cU:hh.get dC=some (aY.cells [(AV.str q.name),(Zi q.af),(Zi q.ab),(Zi q.aC),(Zi q.aD),(Zi q.bad),q.ao] 26 false)) (nX:hh.get iA=some (aY.cells [rv] 69 false)) (LC:hh.get yV=some (aY.cells [lv] 27 false)) (LD:hh.get yW=some (aY.cells [(AV.cQ b)] 78 false)) (JN:bu h hh yX vU) (GJ:∀y∈vU,aA.ok hh y) (X3:vU.length≤1*i_+2) (ml:bG yX dC) (mn:bG yX iA) (mo:bG yX yV) (mq:bG yX yW),tb rc (σ:=List Gate) (ζ:=AV) (cJ (d+8)) GI ⟨((x 0)::(Pt dC)::(x 2)::(Pt iA)::(Pt yV)::(Pt yW)::(AV.int .u64 s0)::yX::rx x 8 15 (lv::(Zn l.length)::(Zn i_)::rx x 26 24 [])),hh,[],rc⟩ (.exit 2) hh (fun r z y=>((y 0)::(Pt dC)::(y 2)::(Pt iA)::(Pt yV)::(Pt yW)::(AV.int .u64 s0)::z::rx y 8 15 (lv::(Zn l.length)::rx y 25 25 []))) (fun r z hk=>Has h hk∧hk.get dC=some (aY.cells [(AV.str q.name),(Zi q.af),(Zi q.ab),(Zi q.aC),(Zi q.aD),(Zi q.bad),q.ao] 26 false)∧hk.get iA=some (aY.cells [rv] 69 false)∧hk.get yV=some (aY.cells [lv] 27 false)∧hk.get yW=some (aY.cells [(AV.cQ b)] 78 false)∧bu h hk z r∧(∀y∈r,aA.ok hk y)∧r.length≤1*l.length+2∧bG z dC∧bG z iA∧bG z yV∧bG z yW) (cH q l s0 k_ i_ vU)
 | 0,i1,vU,yX,jZ,x,hh,aL,aX,gI,cU,nX,LC,LD,JN,GJ,X3,ml,mn,mo,mq=>by
   have B0:=mz.small
   have B1:=s9.small
   have aap:=aaj.small
   have BS:=aL _ _ cU
   have Z':=aL _ _ nX
   have afD:=aL _ _ LC
   have afE:=aL _ _ LD
   have rg_:=LB i1
   have q1:(decide (((i1:Nat):Int)<((l.length:Nat):Int)))=false:=d!
   have ev:=V3 rc (d+8) GI ((x 0)::(Pt dC)::(x 2)::(Pt iA)::(Pt yV)::(Pt yW)::(AV.int .u64 s0)::yX::rx x 8 15 (lv::(Zn l.length)::(Zn i1)::rx x 26 24 [])) hh (.exit 2) hh (VV (bz 3 false false .i64 ((i1:Nat):Int) ((l.length:Nat):Int))<|BB q1<|ZZ) k!
   exact tb.out vU yX rfl ev aL o! ⟨aX,cU,nX,LC,LD,JN,GJ,(by first | omega | (simp<;>omega)),ml,mn,mo,mq⟩ k!
 | bC+1,i1,vU,yX,jZ,x,hh,aL,aX,gI,cU,nX,LC,LD,JN,GJ,X3,ml,mn,mo,mq=>by
   have B0:=mz.small
   have B1:=s9.small
   have aap:=aaj.small
   have BS:=aL _ _ cU
   have Z':=aL _ _ nX
   have afD:=aL _ _ LC
   have afE:=aL _ _ LD
   have rg_:=LB i1
   have q1:(decide (((i1:Nat):Int)<((l.length:Nat):Int)))=true:=d!
   obtain ⟨p3,q4,kO⟩:=mz.elem (i:=i1) o!
   have nI:di env (some (.slice 44)) (some lv) (some (Zn i1))=some (AV.ptr p3 q4):=kO
   have xh:bA env hh 44 (AV.ptr p3 q4)=some (AV.agg [(Zi (l.g i1).aN),(Zi (l.g i1).time),(Zi (l.g i1).value)]):=(mz.has aX).load o! kO
   obtain ⟨h6,te,mf,Df,pR,jQ⟩:=gu aL (aY.cells [(Zi 0),(Zi 0),(Zi 0)] 44 false)
   have mg:Has h h6:=aX.trans jQ
   have jj:Has hh h6:=jQ
   obtain ⟨h7,pS,iR,Dd,kf,dN⟩:=pM (t:=44) (n:=3) (i:=hh.nx) (L:=[(Zi (l.g i1).aN),(Zi (l.g i1).time),(Zi (l.g i1).value)]) mf pR k! rfl rfl (by simp only[AV.cells,List.all_cons,List.all_nil,Bool.and_true,Bool.and_self,eI,dt,eJ,eK,cI,gU,gV,gW,gX,gY,eL])
   have hI:Has h h7:=Has.cm mg dN bH o!
   have kl:Has hh h7:=Has.cm jj dN aL o!
   have LF:bu h h7 yX vU:=bu.kept (bu.has JN jj) dN (bu.B3 aL JN o!)
   have k8:=LA (d:=d+6) q (l.g i1) s0 (aA.mono hI vF) trivial (by first | omega | assumption | (simp only[List.length_set,List.length_replicate,List.length_append,List.length_cons,List.length_nil,List.nil_append]<;>omega) | (rw[List.length_take];omega)) (by first | omega | assumption | (simp only[List.length_set,List.length_replicate,List.length_append,List.length_cons,List.length_nil,List.nil_append]<;>omega) | (rw[List.length_take];omega)) iR
   obtain ⟨h9,afF,uw,abW,R4,CE⟩:=gu iR (aY.cells [(Zi (eU q (l.g i1) s0).time),(Zi (eU q (l.g i1) s0).aq),(Zi (eU q (l.g i1) s0).ak)] 67 false)
   have s6:Has h h9:=hI.trans CE
   have ad6:Has hh h9:=kl.trans CE
   have Ww:Has h7 h9:=CE
   obtain ⟨z11,oQ,aaq,mb,IZ,acW,afG,rC,GK⟩:=bu.Ag (tys:= #[69,69]) (l:=vU) (m:=[(eU q (l.g i1) s0)]) (x:=(AV.slice h7.nx 0 1 1 false)) uw bH s6 o! (bu.has LF Ww) rfl (im (x:=(eU q (l.g i1) s0)) R4) (by simp [aA.c,Gate.c,AV.scalar]) (by first | omega | (simp<;>omega)) rfl rfl k! k! (bytes:=24) k! (z0:=(AV.agg [(Zi 0),(Zi 0),(Zi 0)])) k! rfl (by decide)
   have lH:Has h oQ:=acW
   have aar:∀y∈(vU++[(eU q (l.g i1) s0)]),aA.ok oQ y:=dG (D:=Gate) (nC (dG (D:=Gate) (h':=h9) GJ) (ok_one trivial))
   have V5:=eR 3 false true i1 1 o!
   have ev:=V3 rc (d+8) GI ((x 0)::(Pt dC)::(x 2)::(Pt iA)::(Pt yV)::(Pt yW)::(AV.int .u64 s0)::yX::rx x 8 15 (lv::(Zn l.length)::(Zn i1)::rx x 26 24 [])) hh .normal oQ (VV (bz 3 false false .i64 ((i1:Nat):Int) ((l.length:Nat):Int))<|BV q1 nI<|MM xh<|NN te (fun i=>(Pt i))<|SS pS<|CC<|MM (aB 26 0 (AV.agg [(AV.str q.name),(Zi q.af),(Zi q.ab),(Zi q.aC),(Zi q.aD),(Zi q.bad),q.ao]) (dN _ _ o! (jQ _ _ cU)) k!)<|MM (aB 44 0 (AV.agg [(Zi (l.g i1).aN),(Zi (l.g i1).time),(Zi (l.g i1).value)]) kf k!)<|CC<|EE k8<|NN afF (fun i=>(AV.slice i 0 1 1 false))<|PP (show b8 env h9 #[69,69] yX (AV.slice h7.nx 0 1 1 false)=some (z11,oQ) from aaq)<|CC<|VV V5<|CC<|ZZ) k!
   exact tb.round (by simp only[cH,aj,ai]) ev o! _ k! (fun x=>CD s0 lv l q rv b r dC iA yV yW mz ql s9 aaj vF LB S1 bH Cs Wj afB afC Lu aak aal aam aan aao bC (i1+1) (vU++[(eU q (l.g i1) s0)]) z11 o! x oQ mb lH o! (rC _ _ ml (CE _ _ (dN _ _ o! (jQ _ _ cU)))) (rC _ _ mn (CE _ _ (dN _ _ o! (jQ _ _ nX)))) (rC _ _ mo (CE _ _ (dN _ _ o! (jQ _ _ LC)))) (rC _ _ mq (CE _ _ (dN _ _ o! (jQ _ _ LD)))) afG aar (by first | omega | (simp<;>omega)) (GK _ (uw _ _ (CE _ _ (dN _ _ o! (jQ _ _ cU)))) ml) (GK _ (uw _ _ (CE _ _ (dN _ _ o! (jQ _ _ nX)))) mn) (GK _ (uw _ _ (CE _ _ (dN _ _ o! (jQ _ _ LC)))) mo) (GK _ (uw _ _ (CE _ _ (dN _ _ o! (jQ _ _ LD)))) mq))
theorem LG (q:ay) (l:List aM) (s0:Int):∀(k i:Nat) (v:List Gate),i+k=l.length→cH q l s0 k i v=v++(l.drop i).map fun r=>eU q r s0
 | 0,i,v,h=>by rw[cH,List.drop_eq_nil_of_le o!,List.map_nil,List.append_nil]
 | k+1,i,v,h=>by
   rw[cH,LG q l s0 k (i+1) _ o!,List.drop_eq_getElem_cons (show i<l.length by omega),List.map_cons,List.append_assoc]
   have:l.g i=l[i]'o! :=by rw[List.g,List.getD_eq_getElem?_getD,List.getElem?_eq_getElem o!];rfl
   rw[this];rfl
theorem CG {q:ay} {l:List aM} {s0:Int} {g:Gate} {r:List Gate} (_:Unit):cH q l s0 l.length 0 ([g]++r)≠ []:=by
 rw[LG q l s0 _ _ _ o!];simp
theorem S2 {d:Nat} {h:aw} {q:ay} {l:List aM} {r:List Gate} {m s0:Int} {lv rv:AV} {b bq bm br bl by_ lp:Nat} (x:Nat→AV) (bH:Tidy h) (hq:aA.ok h q) (hl:aQ h lv l) (hr:aQ h rv r) (E1:l.length≤12) (hrl:r.length≤1) (hg:∀k,k<l.length→0≤(l.g k).aN∧(l.g k).aN<(q.ar.length:Int)) (gq:h.get bq=some (.cells (aA.c q) 26 false)) (gm:h.get bm=some (.cells [Zi m] 3 false)) (gr:h.get br=some (.cells [rv] 69 false)) (gl:h.get bl=some (.cells [lv] 27 false)) (gy:h.get by_=some (.cells [.cQ b] 78 false)) (dd:bq<bl∧bl<bm∧bm<br∧br<by_) (hc:(jr q (cH q l s0 l.length 0 (([(⟨0,q.af,q.ab⟩:Gate)])++r)).length ((cH q l s0 l.length 0 (([(⟨0,q.af,q.ab⟩:Gate)])++r)).length - 1) 1 (fA (cH q l s0 l.length 0 (([(⟨0,q.af,q.ab⟩:Gate)])++r)).length ((cH q l s0 l.length 0 (([(⟨0,q.af,q.ab⟩:Gate)])++r)).length - 1) 1 (cH q l s0 l.length 0 (([(⟨0,q.af,q.ab⟩:Gate)])++r))))=none):
 ∃jY h',Ev env (cJ (d+8)) f_ ⟨((AV.cQ b)::(Pt bq)::(Pt bm)::(Pt br)::(Pt bl)::(Pt by_)::(AV.int .u64 s0)::rx x 7 9 ((AV.int .u64 s0)::rx x 17 33 [])),h,[],.pX lp⟩ .normal ⟨jY,h',[],.pX lp⟩∧Tidy h'∧h.nx≤h'.nx∧Has h h':=by
 have T_q:=bH _ _ gq
 have T_m:=bH _ _ gm
 have T_r:=bH _ _ gr
 have T_l:=bH _ _ gl
 have T_y:=bH _ _ gy
 have s_l:=hl.small
 have s_r:=hr.small
 obtain ⟨h1,bD,bN,fX,aH,bZ⟩:=gu bH (aY.cells [(Zi 0),(Zi q.af),(Zi q.ab)] 67 false)
 have bk:Has h h1:=bZ
 have oz5:bu h h1 (AV.slice h.nx 0 1 1 false) [(⟨0,q.af,q.ab⟩:Gate)]:= .inr ⟨by simp,h.nx,false,rfl,by omega,aH⟩
 obtain ⟨z3,h2,S3,fJ,Jm,aas,oz4,tI,xO⟩:=bu.Ag (tys:= #[69,69]) (l:=[(⟨0,q.af,q.ab⟩:Gate)]) (m:=r) (x:=rv) bN bH bk o! oz5 (hr.has bk).nu (hr.has bk).first (zE (hr.has bk) (fun y hy=>by simp [aA.c,Gate.c,AV.scalar])) (by first | omega | (simp<;>omega)) rfl rfl k! k! (bytes:=24) k! (z0:=(AV.agg [(Zi 0),(Zi 0),(Zi 0)])) k! rfl (by decide)
 have fl:Has h h2:=aas
 have S4:∀y∈(([(⟨0,q.af,q.ab⟩:Gate)])++r),aA.ok h2 y:=dG (D:=Gate) (nC (dG (D:=Gate) (h':=h1) (ok_one (h:=h1) trivial)) (hr.has bk).Pp)
 have MU:dw (some (.slice 44)) (some lv)=some (Zn l.length):=hl.len
 obtain ⟨zo9,yl7,h8,LH,tg,Sr,S5,LI,aat,aau,S6,CH,GM,aav,An,Ao,Ap,rM⟩:=CD (d:=d) (rc:=(.pX lp)) (h:=h) s0 lv l q rv b r bq br bl by_ hl hq.1 hq.2 hr hq hg E1 bH o! o! o! o! o! o! o! o! o! o! l.length 0 (([(⟨0,q.af,q.ab⟩:Gate)])++r) z3 o! (fun k_=>(((AV.cQ b)::(Pt bq)::(Pt bm)::(Pt br)::(Pt bl)::(Pt by_)::(AV.int .u64 s0)::z3::rx x 8 8 ((AV.int .u64 s0)::(AV.ptr bq 1)::(AV.agg [(Zi q.af),(Zi q.ab)])::(AV.agg [(Zi 0),(Zi q.af),(Zi q.ab)])::(AV.slice h.nx 0 1 1 false)::rv::z3::lv::(Zn l.length)::(Zi 0)::rx x 26 24 [])):List AV).getD k_ AV.undef) h2 fJ fl o! (tI _ _ (bG.slice o!) (bZ _ _ gq)) (tI _ _ (bG.slice o!) (bZ _ _ gr)) (tI _ _ (bG.slice o!) (bZ _ _ gl)) (tI _ _ (bG.slice o!) (bZ _ _ gy)) oz4 S4 (by first | omega | (simp<;>omega)) (xO _ (bN _ _ (bZ _ _ gq)) (bG.slice o!)) (xO _ (bN _ _ (bZ _ _ gr)) (bG.slice o!)) (xO _ (bN _ _ (bZ _ _ gl)) (bG.slice o!)) (xO _ (bN _ _ (bZ _ _ gy)) (bG.slice o!))
 have LJ:aQ h8 zo9 (cH q l s0 l.length 0 (([(⟨0,q.af,q.ab⟩:Gate)])++r)):=bu.rows CH o! GM
 have Wx:=LJ.small
 have qu:Has h h8:=S5
 obtain ⟨Wy,S7,GN,CI,LK⟩:=bu.sl CH (CG ())
 obtain ⟨oQ,aaw,CJ,mb,IZ,rC,S8,LM⟩:=acP (d:=d) (g:=h) (p:=Wy) (op:=S7) (L:=(cH q l s0 l.length 0 (([(⟨0,q.af,q.ab⟩:Gate)])++r))) q hq qu (xE bH CI) tg LK rfl o! (List.length_pos_iff.2 (CG ()))
 rw[S8 hc] at CJ
 have JO:(cJ (d+8)) (.fn 45) [(AV.agg [(AV.str q.name),(Zi q.af),(Zi q.ab),(Zi q.aC),(Zi q.aD),(Zi q.bad),q.ao]),zo9] h8= .ret AV.aK oQ:=by rw[GN];exact CJ
 have lH:Has h oQ:=(Has.cm qu rC bH CI)
 have ev:=V3 (.pX lp) (d+8) f_ ((AV.cQ b)::(Pt bq)::(Pt bm)::(Pt br)::(Pt bl)::(Pt by_)::(AV.int .u64 s0)::rx x 7 9 ((AV.int .u64 s0)::rx x 17 33 [])) h .normal oQ (CC<|MM (aB 23 1 (AV.agg [(Zi q.af),(Zi q.ab)]) gq k!)<|CC<|NN bD (fun i=>(AV.slice i 0 1 1 false))<|MM (aB 69 0 rv (bZ _ _ gr) k!)<|PP (show b8 env h1 #[69,69] (AV.slice h.nx 0 1 1 false) rv=some (z3,h2) from S3)<|CC<|MM (aB 27 0 lv (tI _ _ (bG.slice o!) (bZ _ _ gl)) k!)<|VV MU<|CC<|LL LH<|MM (aB 26 0 (AV.agg [(AV.str q.name),(Zi q.af),(Zi q.ab),(Zi q.aC),(Zi q.aD),(Zi q.bad),q.ao]) LI k!)<|CC<|EE JO<|CN 5<|FF<|FF<|FF<|FF<|FF<|CC<|FF<|ZZ) k!
 exact ⟨_,_,ev,mb,by omega,lH⟩
theorem S9 {d:Nat} {h:aw} {q:ay} {l:List aM} {r:List Gate} {m s0:Int} {lv rv:AV} {b bq bm br bl by_ lp:Nat} (x:Nat→AV) (bH:Tidy h) (hq:aA.ok h q) (hl:aQ h lv l) (hr:aQ h rv r) (E1:l.length≤12) (hrl:r.length≤1) (hg:∀k,k<l.length→0≤(l.g k).aN∧(l.g k).aN<(q.ar.length:Int)) (gq:h.get bq=some (.cells (aA.c q) 26 false)) (gm:h.get bm=some (.cells [Zi m] 3 false)) (gr:h.get br=some (.cells [rv] 69 false)) (gl:h.get bl=some (.cells [lv] 27 false)) (gy:h.get by_=some (.cells [.cQ b] 78 false)) (dd:bq<bl∧bl<bm∧bm<br∧br<by_) {w:List Gate} (hc:(jr q (cH q l s0 l.length 0 (([(⟨0,q.af,q.ab⟩:Gate)])++r)).length ((cH q l s0 l.length 0 (([(⟨0,q.af,q.ab⟩:Gate)])++r)).length - 1) 1 (fA (cH q l s0 l.length 0 (([(⟨0,q.af,q.ab⟩:Gate)])++r)).length ((cH q l s0 l.length 0 (([(⟨0,q.af,q.ab⟩:Gate)])++r)).length - 1) 1 (cH q l s0 l.length 0 (([(⟨0,q.af,q.ab⟩:Gate)])++r))))=some w) {ok:aw→List AV→(Int×List Gate)→Prop} {I:List (Int×List Gate)→(Nat→Prop)→aw→Prop} (yl:YlH (cJ (d+8)) b ok I) {L:List (Int×List Gate)} {P:Nat→Prop} (hLL:L.length<1000) (hi:I L P h) (kH:∀{hk:aw} {p:Nat} {op:Bool},hk.get p=some (.cells (List.flatMap (aA.c (α:=Gate)) (js q ((cH q l s0 l.length 0 (([(⟨0,q.af,q.ab⟩:Gate)])++r)).length - 1) 0 w)) 67 false)→ok hk [.int .u64 s0,.slice p 0 (cH q l s0 l.length 0 (([(⟨0,q.af,q.ab⟩:Gate)])++r)).length (cH q l s0 l.length 0 (([(⟨0,q.af,q.ab⟩:Gate)])++r)).length op] (s0,js q ((cH q l s0 l.length 0 (([(⟨0,q.af,q.ab⟩:Gate)])++r)).length - 1) 0 w)) (ahi:¬P bq) (ahj:¬P bm) (ahk:¬P br) (ahl:¬P bl) (agK:¬P by_):
 ∃jY h' P',Ev env (cJ (d+8)) f_ ⟨((AV.cQ b)::(Pt bq)::(Pt bm)::(Pt br)::(Pt bl)::(Pt by_)::(AV.int .u64 s0)::rx x 7 9 ((AV.int .u64 s0)::rx x 17 33 [])),h,[],.pX lp⟩ .normal ⟨jY,h',[],.pX lp⟩∧Tidy h'∧h.nx≤h'.nx∧I (L++[(s0,js q ((cH q l s0 l.length 0 (([(⟨0,q.af,q.ab⟩:Gate)])++r)).length - 1) 0 w)]) P' h'∧(∀j,P' j→P j∨h.nx≤j)∧Left P h h':=by
 have T_q:=bH _ _ gq
 have T_m:=bH _ _ gm
 have T_r:=bH _ _ gr
 have T_l:=bH _ _ gl
 have T_y:=bH _ _ gy
 have s_l:=hl.small
 have s_r:=hr.small
 have np_:0<(cH q l s0 l.length 0 (([(⟨0,q.af,q.ab⟩:Gate)])++r)).length:=List.length_pos_iff.2 (CG ())
 obtain ⟨h1,bD,bN,fX,aH,bZ⟩:=gu bH (aY.cells [(Zi 0),(Zi q.af),(Zi q.ab)] 67 false)
 have bk:Has h h1:=bZ
 have oz5:bu h h1 (AV.slice h.nx 0 1 1 false) [(⟨0,q.af,q.ab⟩:Gate)]:= .inr ⟨by simp,h.nx,false,rfl,by omega,aH⟩
 obtain ⟨z3,h2,S3,fJ,Jm,aas,oz4,tI,xO⟩:=bu.Ag (tys:= #[69,69]) (l:=[(⟨0,q.af,q.ab⟩:Gate)]) (m:=r) (x:=rv) bN bH bk o! oz5 (hr.has bk).nu (hr.has bk).first (zE (hr.has bk) (fun y hy=>by simp [aA.c,Gate.c,AV.scalar])) (by first | omega | (simp<;>omega)) rfl rfl k! k! (bytes:=24) k! (z0:=(AV.agg [(Zi 0),(Zi 0),(Zi 0)])) k! rfl (by decide)
 have fl:Has h h2:=aas
 have S4:∀y∈(([(⟨0,q.af,q.ab⟩:Gate)])++r),aA.ok h2 y:=dG (D:=Gate) (nC (dG (D:=Gate) (h':=h1) (ok_one (h:=h1) trivial)) (hr.has bk).Pp)
 have MU:dw (some (.slice 44)) (some lv)=some (Zn l.length):=hl.len
 obtain ⟨zo9,yl7,h8,LH,tg,Sr,S5,LI,aat,aau,S6,CH,GM,aav,An,Ao,Ap,rM⟩:=CD (d:=d) (rc:=(.pX lp)) (h:=h) s0 lv l q rv b r bq br bl by_ hl hq.1 hq.2 hr hq hg E1 bH o! o! o! o! o! o! o! o! o! o! l.length 0 (([(⟨0,q.af,q.ab⟩:Gate)])++r) z3 o! (fun k_=>(((AV.cQ b)::(Pt bq)::(Pt bm)::(Pt br)::(Pt bl)::(Pt by_)::(AV.int .u64 s0)::z3::rx x 8 8 ((AV.int .u64 s0)::(AV.ptr bq 1)::(AV.agg [(Zi q.af),(Zi q.ab)])::(AV.agg [(Zi 0),(Zi q.af),(Zi q.ab)])::(AV.slice h.nx 0 1 1 false)::rv::z3::lv::(Zn l.length)::(Zi 0)::rx x 26 24 [])):List AV).getD k_ AV.undef) h2 fJ fl o! (tI _ _ (bG.slice o!) (bZ _ _ gq)) (tI _ _ (bG.slice o!) (bZ _ _ gr)) (tI _ _ (bG.slice o!) (bZ _ _ gl)) (tI _ _ (bG.slice o!) (bZ _ _ gy)) oz4 S4 (by first | omega | (simp<;>omega)) (xO _ (bN _ _ (bZ _ _ gq)) (bG.slice o!)) (xO _ (bN _ _ (bZ _ _ gr)) (bG.slice o!)) (xO _ (bN _ _ (bZ _ _ gl)) (bG.slice o!)) (xO _ (bN _ _ (bZ _ _ gy)) (bG.slice o!))
 have LJ:aQ h8 zo9 (cH q l s0 l.length 0 (([(⟨0,q.af,q.ab⟩:Gate)])++r)):=bu.rows CH o! GM
 have Wx:=LJ.small
 have qu:Has h h8:=S5
 obtain ⟨Wy,S7,GN,CI,LK⟩:=bu.sl CH (CG ())
 obtain ⟨oQ,aaw,CJ,mb,IZ,rC,S8,LM⟩:=acP (d:=d) (g:=h) (p:=Wy) (op:=S7) (L:=(cH q l s0 l.length 0 (([(⟨0,q.af,q.ab⟩:Gate)])++r))) q hq qu (xE bH CI) tg LK rfl o! (List.length_pos_iff.2 (CG ()))
 rw[(LM _ hc).1] at CJ
 have JO:(cJ (d+8)) (.fn 45) [(AV.agg [(AV.str q.name),(Zi q.af),(Zi q.ab),(Zi q.aC),(Zi q.aD),(Zi q.bad),q.ao]),zo9] h8= .ret (AV.slice Wy 0 (cH q l s0 l.length 0 (([(⟨0,q.af,q.ab⟩:Gate)])++r)).length (cH q l s0 l.length 0 (([(⟨0,q.af,q.ab⟩:Gate)])++r)).length S7) oQ:=by rw[GN];exact CJ
 have lH:Has h oQ:=(Has.cm qu rC bH CI)
 have Pw:(decide (0<(((cH q l s0 l.length 0 (([(⟨0,q.af,q.ab⟩:Gate)])++r)).length:Nat):Int)))=true:=d!
 obtain ⟨I',acX,Ss,xj,acs,acY,acZ,aax⟩:=yl.next (L:=L) (P:=P) hLL (kH (op:=S7) (LM _ hc).2) (yl.stay hi mb o! (fun k w _ g=>lH _ _ g)) mb
 have ev:=V3 (.pX lp) (d+8) f_ ((AV.cQ b)::(Pt bq)::(Pt bm)::(Pt br)::(Pt bl)::(Pt by_)::(AV.int .u64 s0)::rx x 7 9 ((AV.int .u64 s0)::rx x 17 33 [])) h .normal I' (CC<|MM (aB 23 1 (AV.agg [(Zi q.af),(Zi q.ab)]) gq k!)<|CC<|NN bD (fun i=>(AV.slice i 0 1 1 false))<|MM (aB 69 0 rv (bZ _ _ gr) k!)<|PP (show b8 env h1 #[69,69] (AV.slice h.nx 0 1 1 false) rv=some (z3,h2) from S3)<|CC<|MM (aB 27 0 lv (tI _ _ (bG.slice o!) (bZ _ _ gl)) k!)<|VV MU<|CC<|LL LH<|MM (aB 26 0 (AV.agg [(AV.str q.name),(Zi q.af),(Zi q.ab),(Zi q.aC),(Zi q.aD),(Zi q.bad),q.ao]) LI k!)<|CC<|EE JO<|CN 3<|VV (bW 3 false true .i64 (((cH q l s0 l.length 0 (([(⟨0,q.af,q.ab⟩:Gate)])++r)).length:Nat):Int) 0)<|CC<|BM Pw (aB 78 0 (AV.cQ b) (rC _ _ (rM.ne GN) S6) k!)<|BC Pw<|BC Pw<|BB Pw<|AA (.e (.bool true) I')<|HH Ss<|BC Pw<|VV (jA false false Pw)<|FF<|ZZ) k!
 exact ⟨_,_,acX,ev,xj,by omega,acY,fun j hj=>(acZ j hj).imp id fun _=>by omega,fun j w hj gw=>aax _ _ hj (lH _ _ gw)⟩
def OW:Code→Code
 | .seq a b=>match OW a with
   | .skip=>OW b
   | c=>c
 | .block _ b=>OW b
 | .rangeFunc _ _ a _=>a
 | _=> .skip
def jX:Code:=OW pa
theorem zS {call:bj} {c:Code} {s:St} {e:iC} {L L':List AV} {h:aw} {rc:RC} (q:L=L') (ev:Ev env call c s e ⟨L,h,[],rc⟩):Ev env call c s e ⟨L',h,[],rc⟩:=q▸ev
theorem Nx {d:Nat} (x:Nat→AV) (b bq bm br bl by_ lp:Nat) (s0:Int) (h:aw):
 Ev env (cJ (d+8)) jX ⟨(AV.cQ b)::(Pt bq)::(Pt bm)::(Pt br)::(Pt bl)::(Pt by_)::rx x 6 10 ((AV.int .u64 s0)::rx x 17 33 []),h,[],.pX lp⟩ .normal ⟨(AV.cQ b)::(Pt bq)::(Pt bm)::(Pt br)::(Pt bl)::(Pt by_)::(AV.int .u64 s0)::rx x 7 9 ((AV.int .u64 s0)::rx x 17 33 []),h,[],.pX lp⟩:=by
 have ev:=V3 (.pX lp) (d+8) jX ((AV.cQ b)::(Pt bq)::(Pt bm)::(Pt br)::(Pt bl)::(Pt by_)::rx x 6 10 ((AV.int .u64 s0)::rx x 17 33 [])) h .normal h (CC<|ZZ) k!
 exact zS (by kernel_rfl) ev
theorem Ny (x:Nat→AV) (b bq bm br bl by_:Nat) (a:AV):([16].zip [a]).foldl (fun ts y=>ts.set y.1 y.2) ((AV.cQ b)::(Pt bq)::(Pt bm)::(Pt br)::(Pt bl)::(Pt by_)::rx x 6 44 [])=(AV.cQ b)::(Pt bq)::(Pt bm)::(Pt br)::(Pt bl)::(Pt by_)::rx x 6 10 (a::rx x 17 33 []):=by kernel_rfl
def uZ (q:ay) (l:List aM) (r:List Gate) (s0:Int):Nat:=(cH q l s0 l.length 0 (([(⟨0,q.af,q.ab⟩:Gate)])++r)).length
def dj (q:ay) (l:List aM) (r:List Gate) (s0:Int):Option (List Gate):=(jr q (cH q l s0 l.length 0 (([(⟨0,q.af,q.ab⟩:Gate)])++r)).length ((cH q l s0 l.length 0 (([(⟨0,q.af,q.ab⟩:Gate)])++r)).length - 1) 1 (fA (cH q l s0 l.length 0 (([(⟨0,q.af,q.ab⟩:Gate)])++r)).length ((cH q l s0 l.length 0 (([(⟨0,q.af,q.ab⟩:Gate)])++r)).length - 1) 1 (cH q l s0 l.length 0 (([(⟨0,q.af,q.ab⟩:Gate)])++r)))).map (js q ((cH q l s0 l.length 0 (([(⟨0,q.af,q.ab⟩:Gate)])++r)).length - 1) 0)
def Eu (q:ay) (l:List aM) (r:List Gate):List AV→Option (Int×List Gate)
 | [.int .u64 s]=>(dj q l r s).map fun w=>(s,w)
 | _=>none
def mM (x:Nat→AV) (b bq bm br bl by_:Nat):List AV:=(AV.cQ b)::(Pt bq)::(Pt bm)::(Pt br)::(Pt bl)::(Pt by_)::rx x 6 44 []
def ExI (I:List (Int×List Gate)→(Nat→Prop)→aw→Prop) (g:aw) (q:ay) (l:List aM) (r:List Gate) (m:Int) (lv rv:AV) (b bq bm br bl by_ lp:Nat) (x:Nat→AV) (dn:Nat) (L:List (List AV)) (P':Nat→Prop) (hh:aw):Prop:=
 ∃P0:Nat→Prop,I (L.filterMap (Eu q l r)) P0 hh∧Has g hh∧g.nx≤hh.nx∧lp<hh.nx∧hh.get bq=some (.cells (aA.c q) 26 false)∧hh.get bm=some (.cells [Zi m] 3 false)∧hh.get br=some (.cells [rv] 69 false)∧hh.get bl=some (.cells [lv] 27 false)∧hh.get by_=some (.cells [.cQ b] 78 false)∧hh.get lp=some (.loop .ready none (mM x b bq bm br bl by_) [16] jX f_ dn)∧(∀k,P0 k→g.get k=none∧k≠bq∧k≠bm∧k≠br∧k≠bl∧k≠by_∧k≠lp)∧∀k,P' k↔(P0 k∨(∃w,g.get k=some w)∨k=bq∨k=bm∨k=br∨k=bl∨k=by_∨k=lp)
theorem aay {d:Nat} {g:aw} {q:ay} {l:List aM} {r:List Gate} {m:Int} {lv rv:AV} {b bq bm br bl by_ lp:Nat} (x:Nat→AV) (dn:Nat) (PD:Tidy g) (hq:aA.ok g q) (hl:aQ g lv l) (hr:aQ g rv r) (E1:l.length≤12) (hrl:r.length≤1) (hg:∀k,k<l.length→0≤(l.g k).aN∧(l.g k).aN<(q.ar.length:Int)) (dd:bq<bl∧bl<bm∧bm<br∧br<by_) (gb:g.nx≤bq) (bp:by_<lp)
 {ok:aw→List AV→(Int×List Gate)→Prop} {I:List (Int×List Gate)→(Nat→Prop)→aw→Prop} (yl:YlH (cJ (d+8)) b ok I) (kH:∀{s0:Int} {w:List Gate} {hk:aw} {p:Nat} {op:Bool},dj q l r s0=some w→hk.get p=some (.cells (List.flatMap (aA.c (α:=Gate)) w) 67 false)→ok hk [.int .u64 s0,.slice p 0 (uZ q l r s0) (uZ q l r s0) op] (s0,w)):
 Yl (cJ (d+9)) lp (fun a=>∃s0:Int,a=[AV.int .u64 s0]) (ExI I g q l r m lv rv b bq bm br bl by_ lp x dn) where
 aP:=by
  rintro L P' hh ⟨P0,i0,ag,gn,gx,gq,gm,gr,gl,gy,gp,nP,pp⟩ k hk
  rcases (pp k).1 hk with p | ⟨w,p⟩ | p
  · exact yl.aP i0 k p
  · have:=PD _ _ p;omega
  · omega
 stay:=by
  rintro L P' hh hk ⟨P0,i0,ag,gn,gx,gq,gm,gr,gl,gy,gp,nP,pp⟩ yk nk kp
  have K:=fun k w (c:P0 k∨(∃w,g.get k=some w)∨k=bq∨k=bm∨k=br∨k=bl∨k=by_∨k=lp) e=>kp k w ((pp k).2 c) e
  exact ⟨P0,yl.stay i0 yk nk fun k w p e=>K k w (.inl p) e,fun k w e=>K k w (.inr (.inl ⟨_,e⟩)) (ag _ _ e),by omega,by omega,K _ _ (by simp) gq,K _ _ (by simp) gm,K _ _ (by simp) gr,K _ _ (by simp) gl,K _ _ (by simp) gy,K _ _ (by simp) gp,nP,pp⟩
 next:=by
  rintro L a P' hh hLL ⟨s0,rfl⟩ ⟨P0,i0,ag,gn,gx,gq,gm,gr,gl,gy,gp,nP,pp⟩ y
  have T1:=y _ _ gp
  have c1:=kY (o:= .loop .busy none (mM x b bq bm br bl by_) [16] jX f_ dn) y gp
  have ag1:Has g (hh.put lp (some (.loop .busy none (mM x b bq bm br bl by_) [16] jX f_ dn))):=fun k w e=>c1.2.2 _ _ (fun e'=>by have:=PD _ _ e;omega) (ag _ _ e)
  have pl:P' lp:=(pp lp).2 (by simp)
  cases hc:(jr q (cH q l s0 l.length 0 (([(⟨0,q.af,q.ab⟩:Gate)])++r)).length ((cH q l s0 l.length 0 (([(⟨0,q.af,q.ab⟩:Gate)])++r)).length - 1) 1 (fA (cH q l s0 l.length 0 (([(⟨0,q.af,q.ab⟩:Gate)])++r)).length ((cH q l s0 l.length 0 (([(⟨0,q.af,q.ab⟩:Gate)])++r)).length - 1) 1 (cH q l s0 l.length 0 (([(⟨0,q.af,q.ab⟩:Gate)])++r)))) with
  | none=>
    obtain ⟨jY,h2,ev,y2,n2,a2⟩:=S2 (d:=d) (b:=b) (bq:=bq) (bm:=bm) (br:=br) (bl:=bl) (by_:=by_) (lp:=lp) x c1.1 (aA.mono ag1 hq) (hl.has ag1) (hr.has ag1) E1 hrl hg (c1.2.2 _ _ o! gq) (c1.2.2 _ _ o! gm) (c1.2.2 _ _ o! gr) (c1.2.2 _ _ o! gl) (c1.2.2 _ _ o! gy) dd hc
    have e:=F0 (d:=d+8) (args:=[.int .u64 s0]) (jump:=none) gp rfl ((Ny x b bq bm br bl by_ (.int .u64 s0))▸Nx x b bq bm br bl by_ lp s0 hh) gp ev (.inl ⟨rfl,rfl⟩) (a2 _ _ c1.2.1)
    have c3:=kY (o:= .loop .ready none (mM x b bq bm br bl by_) [16] jX f_ dn) y2 (a2 _ _ c1.2.1)
    have K:∀k w,k≠lp→hh.get k=some w→(h2.put lp (some (.loop .ready none (mM x b bq bm br bl by_) [16] jX f_ dn))).get k=some w:=fun k w n e=>c3.2.2 _ _ n (a2 _ _ (c1.2.2 _ _ n e))
    refine ⟨_,P',e,c3.1,n2,⟨P0,?_,fun k w e=>K _ _ (fun e'=>by have:=PD _ _ e;omega) (ag _ _ e),Nat.le_trans gn n2,Nat.lt_of_lt_of_le gx n2,K _ _ o! gq,K _ _ o! gm,K _ _ o! gr,K _ _ o! gl,K _ _ o! gy,c3.2.1,nP,pp⟩,fun _=> .inl,fun k w n e=>K k w (fun e'=>n (e'▸pl)) e⟩
    rw[List.filterMap_append,List.filterMap_cons_none (show Eu q l r [AV.int .u64 s0]=none by show (dj q l r s0).map _=_;rw[dj,hc];rfl),List.filterMap_nil,List.append_nil]
    exact yl.stay i0 c3.1 n2 fun k w p e=>K k w (nP k p).2.2.2.2.2.2 e
  | some w=>
    have ht:dj q l r s0=some (js q ((cH q l s0 l.length 0 (([(⟨0,q.af,q.ab⟩:Gate)])++r)).length - 1) 0 w):=by rw[dj,hc];rfl
    have np:∀{k},(k=bq∨k=bm∨k=br∨k=bl∨k=by_∨k=lp)→¬P0 k:=fun {k} c p=>by have:=nP k p;omega
    obtain ⟨jY,h2,P2,ev,y2,n2,i2,p2,l2⟩:=S9 (d:=d) (b:=b) (bq:=bq) (bm:=bm) (br:=br) (bl:=bl) (by_:=by_) (lp:=lp) x c1.1 (aA.mono ag1 hq) (hl.has ag1) (hr.has ag1) E1 hrl hg (c1.2.2 _ _ o! gq) (c1.2.2 _ _ o! gm) (c1.2.2 _ _ o! gr) (c1.2.2 _ _ o! gl) (c1.2.2 _ _ o! gy) dd hc yl (Nat.lt_of_le_of_lt (List.length_filterMap_le _ _) hLL) (yl.stay i0 c1.1 (Nat.le_refl _) fun k w p e=>c1.2.2 _ _ (nP k p).2.2.2.2.2.2 e) (fun {hk p op} e=>kH ht e) (np (by simp)) (np (by simp)) (np (by simp)) (np (by simp)) (np (by simp))
    have e:=F0 (d:=d+8) (args:=[.int .u64 s0]) (jump:=none) gp rfl ((Ny x b bq bm br bl by_ (.int .u64 s0))▸Nx x b bq bm br bl by_ lp s0 hh) gp ev (.inl ⟨rfl,rfl⟩) (l2 _ _ (np (by simp)) c1.2.1)
    have c3:=kY (o:= .loop .ready none (mM x b bq bm br bl by_) [16] jX f_ dn) y2 (l2 _ _ (np (by simp)) c1.2.1)
    have K:∀k w,k≠lp→¬P0 k→hh.get k=some w→(h2.put lp (some (.loop .ready none (mM x b bq bm br bl by_) [16] jX f_ dn))).get k=some w:=fun k w n n' e=>c3.2.2 _ _ n (l2 _ _ n' (c1.2.2 _ _ n e))
    have T:∀{k w},hh.get k=some w→k<hh.nx:=fun e=>y _ _ e
    have t1:=T gq;have t2:=T gm;have t3:=T gr;have t4:=T gl;have t5:=T gy
    have nP2:∀k,P2 k→g.get k=none∧k≠bq∧k≠bm∧k≠br∧k≠bl∧k≠by_∧k≠lp:=fun k p=>by
     rcases p2 k p with h | h
     · exact nP k h
     · have h:hh.nx≤k:=h
       exact ⟨xE PD o!,by omega⟩
    refine ⟨_,fun k=>P2 k∨(∃w,g.get k=some w)∨k=bq∨k=bm∨k=br∨k=bl∨k=by_∨k=lp,e,c3.1,n2,⟨P2,?_,fun k w e=>K _ _ (fun e'=>by have:=PD _ _ e;omega) (fun p=>by have:=(nP k p).1;rw[e] at this;cases this) (ag _ _ e),Nat.le_trans gn n2,Nat.lt_of_lt_of_le gx n2,K _ _ o! (np (by simp)) gq,K _ _ o! (np (by simp)) gm,K _ _ o! (np (by simp)) gr,K _ _ o! (np (by simp)) gl,K _ _ o! (np (by simp)) gy,c3.2.1,nP2,fun _=>Iff.rfl⟩,fun k p=>?_,fun k w n e=>K k w (fun e'=>n (e'▸pl)) (fun p=>n ((pp k).2 (.inl p))) e⟩
    · rw[List.filterMap_append,List.filterMap_cons_some (show Eu q l r [AV.int .u64 s0]=some (s0,js q ((cH q l s0 l.length 0 (([(⟨0,q.af,q.ab⟩:Gate)])++r)).length - 1) 0 w) by show (dj q l r s0).map _=_;rw[ht];rfl),List.filterMap_nil]
      exact yl.stay i2 c3.1 (Nat.le_refl _) fun k w p e=>c3.2.2 _ _ (nP2 k p).2.2.2.2.2.2 e
    · rcases p with p | p
      · exact (p2 k p).imp (fun h=>(pp k).2 (.inl h)) id
      · exact .inl ((pp k).2 (.inr p))
def sq1:Code→Code
 | .seq a _=>a
 | c=>c
def sq2:Code→Code
 | .seq _ b=>b
 | c=>c
def X4:Code:=sq1 pa
def X5:Code:=sq1 (sq2 pa)
theorem OX:pa= .seq X4 (.seq X5 (.block 0 (.rangeFunc (.tmp 15) #[16] jX f_))):=by kernel_rfl
theorem Ev.S_ {call:bj} {i:Nat} {b:Code} {s s':St} (h:Ev env call b s .normal s'):Ev env call (.block i b) s .normal s':=by
 obtain ⟨n0,h3⟩:=h
 refine ⟨n0+1,fun n hn=>?_⟩
 obtain ⟨k,rfl⟩:∃k,n=k+1:=⟨n - 1,by omega⟩
 rw[AE,h3 k o!]
 rfl
theorem Wz {d:Nat} {b bn bm:Nat} {n m:Int} {ok:List AV→Prop} {I:List (List AV)→(Nat→Prop)→aw→Prop} (yl:Yl (cJ (d+2)) b ok I) (back:∀{L L' P P' hh hk},I L P hh→I L' P' hk→Has hh hk→I L' P hh) (kH:∀s:Nat,(s:Int)<eB .u64 1 n→decide (ji ((s:Nat):Int)=m)=true→ok [AV.int .u64 ((s:Nat):Int)]) (h0:0≤n) (hn:n≤8) {P:Nat→Prop} {hh:aw} (aL:Tidy hh) (gn:hh.get bn=some (.cells [Zi n] 3 false)) (gm:hh.get bm=some (.cells [Zi m] 3 false)) (hi:I [] P hh) (Wq:¬P bn) (Wr:¬P bm):
 ∃hk P',cJ (d+3) (.fn 67) [.cQ b,.ptr bn 0,.ptr bm 0] hh= .ret (.tuple []) hk∧Tidy hk∧hh.nx≤hk.nx∧I (tH m (eB .u64 1 n).toNat 0) P' hk∧(∀j,P' j→P j∨hh.nx≤j)∧Left P hh hk:=by
 obtain ⟨hk,h',P',e,y,n1,i,p,lf,q⟩:=aah yl kH h0 hn aL gn gm hi Wq Wr
 rcases q with rfl | ⟨rfl,A⟩
 · exact ⟨_,P',e,y,n1,i,p,lf⟩
 · exact ⟨_,P,e,aL,Nat.le_refl _,back hi i A,fun _=> .inl,Left.refl _ _⟩
theorem S' {I:List (Int×List Gate)→(Nat→Prop)→aw→Prop} (back:∀{L L' P P' hh hk},I L P hh→I L' P' hk→Has hh hk→I L' P hh) {g:aw} {q:ay} {l:List aM} {r:List Gate} {m:Int} {lv rv:AV} {b bq bm br bl by_ lp:Nat} {x:Nat→AV} {dn:Nat} {L L':List (List AV)} {P P':Nat→Prop} {hh hk:aw} (a:ExI I g q l r m lv rv b bq bm br bl by_ lp x dn L P hh) (a':ExI I g q l r m lv rv b bq bm br bl by_ lp x dn L' P' hk) (A:Has hh hk):ExI I g q l r m lv rv b bq bm br bl by_ lp x dn L' P hh:=by
 obtain ⟨P0,i0,w⟩:=a
 obtain ⟨P1,i1,_⟩:=a'
 exact ⟨P0,back i0 i1 A,w⟩
def ct (q:ay) (l:List aM) (r:List Gate) (m:Int):List (Int×List Gate):=(tH m (eB .u64 1 ((q.ar.length:Nat):Int)).toNat 0).filterMap (Eu q l r)
theorem X6 {d:Nat} {g h:aw} {q:ay} {l:List aM} {r:List Gate} {m:Int} {lv rv:AV} {b bq bm br bl:Nat} (PD:Tidy g) (hqg:aA.ok g q) (hlg:aQ g lv l) (hrg:aQ g rv r) (E1:l.length≤12) (hrl:r.length≤1) (hq8:q.ar.length≤8) (VT:∀k,k<l.length→0≤(l.g k).aN∧(l.g k).aN<(q.ar.length:Int)) (dd:bq<bl∧bl<bm∧bm<br) (gb:g.nx≤bq) (bH:Tidy h) (ag:Has g h) (ngh:g.nx≤h.nx) (gq:h.get bq=some (.cells (aA.c q) 26 false)) (gm:h.get bm=some (.cells [Zi m] 3 false)) (gr:h.get br=some (.cells [rv] 69 false)) (gl:h.get bl=some (.cells [lv] 27 false))
 {ok:aw→List AV→(Int×List Gate)→Prop} {I:List (Int×List Gate)→(Nat→Prop)→aw→Prop} (yl:YlH (cJ (d+8)) b ok I) (back:∀{L L' P P' hh hk},I L P hh→I L' P' hk→Has hh hk→I L' P hh) (kH:∀{s0:Int} {w:List Gate} {hk:aw} {p:Nat} {op:Bool},dj q l r s0=some w→hk.get p=some (.cells (List.flatMap (aA.c (α:=Gate)) w) 67 false)→ok hk [.int .u64 s0,.slice p 0 (uZ q l r s0) (uZ q l r s0) op] (s0,w))
 {P:Nat→Prop} (hi:I [] P h) (nP:∀k,P k→g.get k=none∧k≠bq∧k≠bm∧k≠br∧k≠bl):
 ∃hk P',cJ (d+11) (.fn 42) [.cQ b,.ptr bq 0,.ptr bm 0,.ptr br 0,.ptr bl 0] h= .ret (.tuple []) hk∧Tidy hk∧h.nx≤hk.nx∧I (ct q l r m) P' hk∧(∀j,P' j→P j∨h.nx≤j)∧Left P h hk:=by
 have hq:=aA.mono ag hqg
 have T_q:=bH _ _ gq
 have T_m:=bH _ _ gm
 have T_r:=bH _ _ gr
 have T_l:=bH _ _ gl
 obtain ⟨h1,bD,bN,fX,aH,bZ⟩:=gu bH (aY.cells [(AV.cQ b)] 78 false)
 have ev0:=pk (d+10) X4 ((AV.cQ b)::(AV.ptr bq 0)::(AV.ptr bm 0)::(AV.ptr br 0)::(AV.ptr bl 0)::jl 45) h .normal h1 (NN bD (fun i=>(AV.ptr i 0))<|ZZ) (by kernel_rfl)
 have RP:dw (some (.slice 63)) (some q.ao)=some (AV.int .i64 ((q.ar.length:Nat):Int)):=hq.2.len
 obtain ⟨bn4,bm5,h3,Z7,eZ,qn,dL,X7,X8,agM,agN⟩:=afz (d:=d+8) (n:=((q.ar.length:Nat):Int)) (m:=m) bN
 have ev1:=pk (d+10) X5 ((AV.cQ b)::(AV.ptr bq 0)::(AV.ptr bm 0)::(AV.ptr br 0)::(AV.ptr bl 0)::(AV.ptr h.nx 0)::jl 44) h1 .normal h3 (CC<|MM (aB 24 6 q.ao (bZ _ _ gq) (by kernel_rfl))<|VV RP<|MM (aB 3 0 (AV.int .i64 m) (bZ _ _ gm) (by kernel_rfl))<|EE Z7<|ZZ) (by kernel_rfl)
 have T4:=eZ _ _ X7
 have T5:=eZ _ _ X8
 obtain ⟨h4,n4⟩:=lX (h:=h3) .pG
 have y4:=fQ eZ n4
 have x4:=lr n4
 let TS:List AV:=((AV.cQ b)::(AV.ptr bq 0)::(AV.ptr bm 0)::(AV.ptr br 0)::(AV.ptr bl 0)::(AV.ptr h.nx 0)::AV.undef::AV.undef::AV.undef::AV.undef::AV.undef::(AV.ptr bq 6)::q.ao::(AV.int .i64 ((q.ar.length:Nat):Int))::(AV.int .i64 m)::(AV.func 67 [] [(AV.ptr bn4 0),(AV.ptr bm5 0)])::jl 34)
 have eTS:TS=mM (fun k=>TS.getD k .undef) b bq bm br bl h.nx:=by kernel_rfl
 obtain ⟨h5,n5⟩:=lX (h:=h4) (.loop .ready none TS (#[16]:Array Tmp).toList jX f_ h3.nx)
 have y5:=fQ y4 n5
 have x5:=lr n5
 have K5:∀k w,h3.get k=some w→h5.get k=some w:=fun k w e=>fG y4 n5 (fG eZ n4 e)
 have K1:∀k w,h.get k=some w→h5.get k=some w:=fun k w e=>K5 k w (dL _ _ (bZ _ _ e))
 have g_y:h5.get h.nx=some (.cells [.cQ b] 78 false):=K5 _ _ (dL _ _ aH)
 have ac0:∀k,P k→k<h.nx:=yl.aP hi
 have hi5:ExI I g q l r m lv rv b bq bm br bl h.nx h4.nx (fun k=>TS.getD k .undef) h3.nx [] (fun k=>P k∨(∃w,g.get k=some w)∨k=bq∨k=bm∨k=br∨k=bl∨k=h.nx∨k=h4.nx) h5:=
  ⟨P,yl.stay hi y5 o! fun k w _ e=>K1 k w e,fun k w e=>K1 k w (ag _ _ e),by omega,by omega,K1 _ _ gq,K1 _ _ gm,K1 _ _ gr,K1 _ _ gl,g_y,by rw[←eTS];exact jc n5,fun k p=>⟨(nP k p).1,by have:=nP k p;have:=ac0 k p;omega⟩,fun _=>Iff.rfl⟩
 have ylx:=aay (d:=d) (g:=g) (q:=q) (l:=l) (r:=r) (m:=m) (lv:=lv) (rv:=rv) (b:=b) (bq:=bq) (bm:=bm) (br:=br) (bl:=bl) (by_:=h.nx) (lp:=h4.nx) (fun k=>TS.getD k .undef) h3.nx PD hqg hlg hrg E1 hrl VT o! gb o! yl kH
 have nb:∀j,h1.nx≤j→j<h4.nx→¬(P j∨(∃w,g.get j=some w)∨j=bq∨j=bm∨j=br∨j=bl∨j=h.nx∨j=h4.nx):=by
  rintro j c1 c2 (p | ⟨w,p⟩ | p)
  · have:=ac0 j p;omega
  · have:=PD _ _ p;omega
  · omega
 obtain ⟨h6,P6,e6,y6,x6,i6,p6,l6⟩:=Wz (d:=d+7) (n:=((q.ar.length:Nat):Int)) (m:=m) ylx (fun a b c=>S' (I:=I) (fun a b c=>back a b c) a b c) (fun s _ _=>⟨(s:Int),rfl⟩) o! o! y5 (K5 _ _ X7) (K5 _ _ X8) hi5 (nb _ o! o!) (nb _ o! o!)
 obtain ⟨P0,i0,ag6,gn6,gx6,gq6,gm6,gr6,gl6,gy6,gp6,nP6,pp6⟩:=i6
 have er:=BJ (E:=env) (call:=cJ (d+10)) (ts:=TS) (ds:=[]) (f:= .tmp 15) (ps:= #[16]) (aS:=jX) (bd:=f_) (e:= .normal) rfl n4 n5 e6 gp6 (by intro c;cases c) rfl
 have ev:=OX▸Ev.seq (zS (L':=(AV.cQ b)::(AV.ptr bq 0)::(AV.ptr bm 0)::(AV.ptr br 0)::(AV.ptr bl 0)::(AV.ptr h.nx 0)::jl 44) (by kernel_rfl) ev0) (Ev.seq (zS (L':=TS) (by kernel_rfl) ev1) (Ev.S_ er))
 have l6':∀k w,h3.get k=some w→h1.nx≤k→h6.get k=some w:=fun k w e c=>l6 _ _ (nb k c (by have:=eZ _ _ e;omega)) (K5 _ _ e)
 have gd:h6.get h3.nx=some .pG:=l6 _ _ (nb _ o! o!) (fG y4 n5 (jc n4))
 have c7:=kY (o:= .loop .exhausted none (mM (fun k=>TS.getD k .undef) b bq bm br bl h.nx) [16] jX f_ h3.nx) y6 gp6
 have fn:=F1 (args:=[.cQ b,.ptr bq 0,.ptr bm 0,.ptr br 0,.ptr bl 0]) (L:=[h3.nx]) (v:= .tuple []) Try.func42 acV (by kernel_rfl) (.inl rfl) ev (by simp) (fun k hk=>by rw[List.mem_singleton.1 hk];exact c7.2.2 _ _ o! gd) rfl
 obtain ⟨hk,ek,cs⟩:=lu (M0:=M0) rfl fn
 have KF:∀k w,k≠h4.nx→k≠h3.nx→h6.get k=some w→(shut [h3.nx] (h6.put h4.nx (some (.loop .exhausted none (mM (fun k=>TS.getD k .undef) b bq bm br bl h.nx) [16] jX f_ h3.nx)))).get k=some w:=fun k w c1 c2 e=>by
  rw[kM (by simpa using c2)];exact c7.2.2 _ _ c1 e
 have yF:Tidy (shut [h3.nx] (h6.put h4.nx (some (.loop .exhausted none (mM (fun k=>TS.getD k .undef) b bq bm br bl h.nx) [16] jX f_ h3.nx)))):=fun k w gw=>by
  rw[nQ]
  by_cases c:k=h3.nx
  · subst c
    rw[shut,shut,aw.bU] at gw;cases gw
  · rw[kM (by simpa using c)] at gw;exact c7.1 _ _ gw
 have nF:h.nx≤(shut [h3.nx] (h6.put h4.nx (some (.loop .exhausted none (mM (fun k=>TS.getD k .undef) b bq bm br bl h.nx) [16] jX f_ h3.nx)))).nx:=by
  rw[nQ];show h.nx≤h6.nx;omega
 have nd:∀k,P0 k→k≠h3.nx:=fun k p c=>by
  subst c
  rcases p6 _ ((pp6 _).2 (.inl p)) with c | c
  · exact nb _ o! o! c
  · omega
 have iF:=yl.stay i0 yF (by rw[nQ];exact Nat.le_refl _) fun k w p e=>KF k w (nP6 k p).2.2.2.2.2.2 (nd k p) e
 have pF:∀j,P0 j→P j∨h.nx≤j:=fun j p=>by
  have np:=nP6 j p
  rcases p6 j ((pp6 j).2 (.inl p)) with (c | ⟨w,c⟩ | c) | c
  · exact .inl c
  · have:=np.1;rw[c] at this;cases this
  · omega
  · exact .inr o!
 have lF:Left P h (shut [h3.nx] (h6.put h4.nx (some (.loop .exhausted none (mM (fun k=>TS.getD k .undef) b bq bm br bl h.nx) [16] jX f_ h3.nx)))):=fun k w n e=>by
  have T:=bH _ _ e
  refine KF k w o! o! ?_
  by_cases c0:∃w',g.get k=some w'
  · obtain ⟨w',c0⟩:=c0
    have:=ag _ _ c0
    rw[e] at this
    rw[ag6 _ _ c0,this]
  · by_cases c1:k=bq
    · subst c1;rw[gq6,←gq,e]
    · by_cases c2:k=bm
      · subst c2;rw[gm6,←gm,e]
      · by_cases c3:k=br
        · subst c3;rw[gr6,←gr,e]
        · by_cases c4:k=bl
          · subst c4;rw[gl6,←gl,e]
          · refine l6 _ _ ?_ (K1 _ _ e)
            rintro (p | p | p)
            · exact n p
            · exact c0 p
            · omega
 rcases cs with rfl | ⟨rfl,A⟩
 · exact ⟨_,P0,ek,yF,nF,iF,pF,lF⟩
 · exact ⟨_,P,ek,bH,Nat.le_refl _,back hi iF A,fun _=> .inl,Left.refl _ _⟩
def qx:Code:=(Try.f61.body).getD .skip
theorem u_:Try.f61.body=some qx:=by kernel_rfl
def Aq:Code:=(ck qx).getD 0 .skip
def eV (s:List Gate) (P:Gate→Bool):Nat→Nat→Option (Int)
 | 0,_=>none
 | dS+1,i0=>(bif (P (s.g i0)) then some ((i0:Nat):Int) else eV s P dS (i0+1))
theorem mN {d:Nat} {h:aw} (sV:AV) (g:FuncId) (cap:List AV) (s:List Gate) (P:Gate→Bool) (bI:aQ h sV s) (hP:∀y∈s,∀hh,Tidy hh→Has h hh→cJ d (.fn g) (.agg (aA.c y)::cap) hh= .ret (.bool (P y)) hh):∀(k_ i_:Nat) (_:i_+k_=s.length) (x:Nat→AV) (hh:aw) (aL:Tidy hh) (aX:Has h hh),aU (cJ (d)) Aq ⟨(sV::(AV.func g [] cap)::rx x 2 5 ((Zn s.length)::(Zn i_)::rx x 9 10 [])),hh,[],.no⟩ (.exit 0) hh (fun y=>(sV::(AV.func g [] cap)::rx y 2 5 ((Zn s.length)::rx y 8 11 []))) (fun r y=>(sV::(AV.func g [] cap)::(y 2)::(y 3)::(Zi r)::(y 5)::(y 6)::(Zn s.length)::rx y 8 11 [])) (eV s P k_ i_)
 | 0,i0,jZ,x,hh,aL,aX=>by
   have fN:=bI.small
   have q1:(decide (((i0:Nat):Int)<((s.length:Nat):Int)))=false:=d!
   exact aU.out rfl (pk (d) _ _ hh _ hh (VV (bz 3 false false .i64 ((i0:Nat):Int) ((s.length:Nat):Int))<|BB q1<|ZZ) k!) (Grow.refl aL) k!
 | dS+1,i0,jZ,x,hh,aL,aX=>by
   have fN:=bI.small
   have q1:(decide (((i0:Nat):Int)<((s.length:Nat):Int)))=true:=d!
   obtain ⟨p3,q4,kO⟩:=(bI.has aX).elem (i:=i0) o!
   have nI:di env (some (.slice 67)) (some sV) (some (Zn i0))=some (AV.ptr p3 q4):=kO
   have xh:bA env hh 67 (AV.ptr p3 q4)=some (AV.agg [(Zi (s.g i0).time),(Zi (s.g i0).aq),(Zi (s.g i0).ak)]):=(bI.has aX).load o! kO
   have k6:=hP (s.g i0) (oM o!) hh aL aX
   rcases Bool.eq_false_or_eq_true (P (s.g i0)) with f1 | f1
   · exact aU.ret ((i0:Nat):Int) (by simp only[eV,f1,aj,ai]) (pk (d) _ _ hh _ hh (VV (bz 3 false false .i64 ((i0:Nat):Int) ((s.length:Nat):Int))<|BB q1<|CN 5<|VV nI<|MM xh<|EE k6<|BB f1<|CN 2<|ZZ) k!) (Grow.refl aL) k!
   · have u8:=eR 3 false true i0 1 o!
     exact aU.round (by simp only[eV,f1,aj,ai]) (pk (d) _ _ hh _ hh (VV (bz 3 false false .i64 ((i0:Nat):Int) ((s.length:Nat):Int))<|BB q1<|CN 5<|VV nI<|MM xh<|EE k6<|BV f1 u8<|CC<|ZZ) k!) (Grow.refl aL) _ k! (fun x=>mN sV g cap s P bI hP dS (i0+1) o! x hh aL aX)
def bL (s:List Gate) (P:Gate→Bool):Int:=(match (eV s P s.length 0) with | none=>(-1) | some K4=>K4)
theorem Dr {d:Nat} {h:aw} {sV:AV} {g:FuncId} {cap:List AV} (s:List Gate) (P:Gate→Bool) (AI:aQ h sV s) (hP:∀y∈s,∀hh,Tidy hh→Has h hh→cJ d (.fn g) (.agg (aA.c y)::cap) hh= .ret (.bool (P y)) hh) (bH:Tidy h):cJ (d+1) (.fn 61) [sV,(AV.func g [] cap)] h= .ret (Zi (bL s P)) h:=by
 have Nc:=AI.small
 have ie:dw (some (.slice 67)) (some sV)=some (Zn s.length):=AI.len
 cases jf:eV s P s.length 0 with
 | none=>
   obtain ⟨OH,h3,fi,lz⟩:=aU.n jf (mN (d:=d) (h:=h) sV g cap s P AI hP s.length 0 o! (fun k_=>((sV::(AV.func g [] cap)::AV.undef::AV.undef::(Zi 0)::AV.undef::sV::(Zn s.length)::(Zi 0)::jl 10):List AV).getD k_ AV.undef) h bH (Has.refl _))
   have eZ:=lz.y
   have qn:h.nx≤h3.nx:=lz.n
   have fu:Has h h3:=lz.a
   have e:bL s P=(-1):=by simp only[bL,jf,aj,ai]
   rw[e]
   exact az rfl (a_ Try.func61 u_ rfl (.inr rfl) (pk (d) _ _ h _ h3 (CN 2<|VV ie<|CC<|LL fi<|CC<|ZZ) k!) k!) fu rfl
 | some K4=>
   obtain ⟨OH,h3,fi,lz⟩:=aU.r jf (mN (d:=d) (h:=h) sV g cap s P AI hP s.length 0 o! (fun k_=>((sV::(AV.func g [] cap)::AV.undef::AV.undef::(Zi 0)::AV.undef::sV::(Zn s.length)::(Zi 0)::jl 10):List AV).getD k_ AV.undef) h bH (Has.refl _))
   have eZ:=lz.y
   have qn:h.nx≤h3.nx:=lz.n
   have fu:Has h h3:=lz.a
   have e:bL s P=K4:=by simp only[bL,jf,aj,ai]
   rw[e]
   exact az rfl (a_ Try.func61 u_ rfl (.inr rfl) (pk (d) _ _ h _ h3 (CN 2<|VV ie<|CC<|LL fi<|ZZ) k!) k!) fu rfl
def LN:Code:=(Try.f62.body).getD .skip
theorem WA:Try.f62.body=some LN:=by kernel_rfl
def fS (o:Gate) (t:Int):Bool:=(decide (o.time=t))
theorem WB {d:Nat} {h:aw} (o:Gate) (t:Int) (tB:Nat) (h_o:aA.ok h o) (g_t:h.get tB=some (aY.cells [(Zi t)] 3 false)) (bH:Tidy h):cJ (d+1) (.fn 62) [(AV.agg [(Zi o.time),(Zi o.aq),(Zi o.ak)]),(Pt tB)] h= .ret (AV.bool (fS o t)) h:=by
 obtain ⟨h1,bD,bN,fX,aH,bZ⟩:=gu bH (aY.cells [(Zi o.time),(Zi o.aq),(Zi o.ak)] 67 false)
 have bk:Has h h1:=bZ
 have e:fS o t=(decide (o.time=t)):=by simp only[fS,aj,ai]
 rw[e]
 exact az rfl (a_ Try.func62 WA rfl (.inr rfl) (pk (d) _ _ h _ h1 (NN bD (fun i=>(Pt i))<|CN 2<|MM (aB 3 0 (Zi o.time) aH k!)<|MM (aB 3 0 (Zi t) (bZ _ _ g_t) k!)<|VV (fh 3 false false .i64 o.time t)<|CC<|ZZ) k!) k!) bk rfl
def OY:Code:=(Try.f34.body).getD .skip
theorem aaz:Try.f34.body=some OY:=by kernel_rfl
def kF (c:List Gate) (t:Int):Span:=(⟨(c.g (bL c (fun y=>fS y t)).toNat).aq,(c.g (bL c (fun y=>fS y t)).toNat).ak⟩:Span)
theorem aaA {d:Nat} {h:aw} {cV:AV} (c:List Gate) (t:Int) (XK:aQ h cV c) (jP:0≤bL c (fun y=>fS y t)) (OM:bL c (fun y=>fS y t)<(c.length:Int)) (bH:Tidy h):cJ (d+3) (.fn 34) [cV,(Zi t)] h= .ret (AV.agg [(Zi (kF c t).aP),(Zi (kF c t).aF)]) h:=by
 have agO:=XK.small
 obtain ⟨h1,bD,bN,fX,aH,bZ⟩:=gu bH (aY.cells [(Zi t)] 3 false)
 have bk:Has h h1:=bZ
 obtain ⟨h2,iQ,fJ,uA,dh,dz⟩:=gu bN (aY.cells [(Zi 0),(Zi 0)] 23 false)
 have fl:Has h h2:=bk.trans dz
 have k3:=Dr (d:=d+1) c (fun y=>fS y t) (XK.has fl) (fun y hy hh yy aa=>WB (d:=d) y t h.nx (aA.mono aa ((XK.has fl).Pp y hy)) (aa _ _ (dz _ _ aH)) yy) fJ
 obtain ⟨p5,q6,RX⟩:=XK.elem (i:=(bL c (fun y=>fS y t)).toNat) o!
 have xf:di env (some (.slice 67)) (some cV) (some (Zi (bL c (fun y=>fS y t))))=some (AV.ptr p5 q6):=by rw[show ((bL c (fun y=>fS y t)):Int)=(((bL c (fun y=>fS y t)).toNat:Nat):Int) by omega];exact RX
 have ld7:bA env h2 23 (AV.ptr p5 (q6+1))=some (AV.agg [(Zi (c.g (bL c (fun y=>fS y t)).toNat).aq),(Zi (c.g (bL c (fun y=>fS y t)).toNat).ak)]):=(XK.has fl).Xv (t:=23) (j:=1) (n:=2) o! RX k! k! (by decide) rfl
 obtain ⟨h8,afI,tg,ahm,afJ,ac2⟩:=pM (t:=23) (n:=2) (i:=h1.nx) (L:=[(Zi (c.g (bL c (fun y=>fS y t)).toNat).aq),(Zi (c.g (bL c (fun y=>fS y t)).toNat).ak)]) fJ dh k! rfl rfl (by simp only[AV.cells,List.all_cons,List.all_nil,Bool.and_true,Bool.and_self,eI,dt,eJ,eK,cI,gU,gV,gW,gX,gY,eL])
 have qu:Has h h8:=Has.cm fl ac2 bH o!
 have e:kF c t=(⟨(c.g (bL c (fun y=>fS y t)).toNat).aq,(c.g (bL c (fun y=>fS y t)).toNat).ak⟩:Span):=by simp only[kF,aj,ai]
 rw[e]
 exact az rfl (h_ (a:=4) (t:=23) (i:=h1.nx) Try.func34 aaz rfl (.inr rfl) (pk (d+2) _ _ h _ h8 (NN bD (fun i=>(Pt i))<|NN iQ (fun i=>(Pt i))<|CN 3<|EE k3<|VV xf<|CC<|MM ld7<|SS afI<|ZZ) k!) k! (kL afJ k!)) qu rfl
end
end Go.Proofs.aJ
