import Derived.Test.YtfllahfbmaafcaaW0
import Derived.Test.YtfllahfbmaafcaaW7
import Derived.Test.YtfllahfbmaafcaaW2
import Derived.Test.YtfllahfbmaafcaaW4
import Derived.Test.YtfllahfbmaafcaaA8
import Derived.Test.YtfllahfbmaafcaaW3
import Derived.Test.YtfllahfbmaafcaaW5
namespace Go.Proofs.aH
open Go.Proofs Ab
noncomputable section
set_option maxRecDepth 100000
set_option maxHeartbeats 4000000
set_option linter.unusedVariables false
set_option linter.unusedSimpArgs false
def JY:Code:=(Try.f71.body).getD .skip
theorem TR:Try.f71.body=some JY:=by kernel_rfl
def j9 (x_:Int):Int:=(tE x_)
theorem JZ {d:Nat} {h:au} (x_:Int) (bY:Tidy h):cW (d+2) (.fn 71) [(AV.int .u64 x_)] h= .ret (Zi (j9 x_)) h:=by
 have k1:=Ml (d:=d) x_ bY
 have e:j9 x_=(tE x_):=by simp only[j9,ao,ai]
 rw[e]
 exact aC rfl (bx Try.func71 TR rfl (.inr rfl) (pk (d+1) _ _ h _ h (CC<|FF<|CC<|EE k1<|CC<|ZZ) k!) k!) (Has.refl _) rfl
structure Yl (call:bw) (b:Nat) (ok:List AV→Prop) (I:List (List AV)→(Nat→Prop)→au→Prop):Prop where
 aX:∀{L P hh},I L P hh→∀k,P k→k<hh.nx
 stay:∀{L P hh hk},I L P hh→Tidy hk→hh.nx≤hk.nx→(∀k w,P k→hh.get k=some w→hk.get k=some w)→I L P hk
 next:∀{L a P hh},L.length<1000→ok a→I L P hh→Tidy hh→∃hk P',call (.vk b) a hh= .ret (.bool true) hk∧Tidy hk∧hh.nx≤hk.nx∧I (L++[a]) P' hk∧(∀k,P' k→P k∨hh.nx≤k)∧∀k w,¬P k→hh.get k=some w→hk.get k=some w
def Left (P:Nat→Prop) (h hk:au):Prop:=∀k w,¬P k→h.get k=some w→hk.get k=some w
theorem Left.refl (P:Nat→Prop) (h:au):Left P h h:=fun _ _ _ q=>q
def zp:Code:=(Try.f70.body).getD .skip
theorem abF:Try.f70.body=some zp:=by kernel_rfl
def C6:Code:=(cC zp).getD 0 .skip
theorem TU {n:Int} (h0:0≤n) (h:n≤8):0≤qk .u64 1 n∧qk .u64 1 n≤1000:=by
 obtain ⟨k,rfl⟩:∃k:Nat,n=k:=⟨n.toNat,by omega⟩
 have:∀k:Nat,k<9→0≤qk .u64 1 (k:Nat)∧qk .u64 1 (k:Nat)≤1000:=by decide+kernel
 exact this k o!
def tF (m:Int):Nat→Nat→List (List AV)
 | 0,_=> []
 | k+1,s=>bif decide (j9 ((s:Nat):Int)=m) then [AV.int .u64 ((s:Nat):Int)]::tF m k (s+1) else tF m k (s+1)
theorem zq {d:Nat} {b bn bm:Nat} {n m N:Int} {ok:List AV→Prop} {I:List (List AV)→(Nat→Prop)→au→Prop} (yl:Yl (cW (d+2)) b ok I) (jV:∀s:Nat,(s:Int)<N→decide (j9 ((s:Nat):Int)=m)=true→ok [AV.int .u64 ((s:Nat):Int)]) (hN:N≤1000):∀(k s0:Nat) (L:List (List AV)) (P:Nat→Prop) (x:Nat→AV) (hh:au) (aN:Tidy hh) (gn:hh.get bn=some (.cells [Zi n] 3 false)) (gm:hh.get bm=some (.cells [Zi m] 3 false)) (hi:I L P hh) (X9:¬P bn) (X_:¬P bm),L.length+k≤1000→(s0:Int)+k=N→
 dU (σ:=Unit) (ζ:=Unit) (cW (d+2)) C6 ⟨((AV.cM b)::(Pt bn)::(Pt bm)::rx x 3 3 ((AV.int .u64 N)::(AV.int .u64 ((s0:Nat):Int))::rx x 8 13 [])),hh,[],.no⟩ (.exit 0) hh (fun _ _ y=>rx y 0 21 []) (fun _ _ hk=>∃P',I (L++tF m k s0) P' hk∧(∀j,P' j→P j∨hh.nx≤j)∧Left P hh hk) ()
 | 0,s0,L,P,x,hh,aN,gn,gm,hi,X9,X_,hLk,kY=>by
   have q1:(decide (((s0:Nat):Int)<N))=false:=d!
   exact dU.out () () rfl (pk (d+2) _ _ hh _ hh (VV (bZ 68 false false .u64 ((s0:Nat):Int) N)<|BB q1<|ZZ) k!) aN (Nat.le_refl _) ⟨P,by rw[tF,List.append_nil];exact hi,fun _ h=> .inl h,Left.refl _ _⟩ k!
 | k+1,s0,L,P,x,hh,aN,gn,gm,hi,X9,X_,hLk,kY=>by
   have T1:=aN _ _ gn
   have T2:=aN _ _ gm
   rcases Bool.eq_false_or_eq_true (decide ((j9 ((s0:Nat):Int))=m)) with f | f
   · skip
     have q1:(decide (((s0:Nat):Int)<N))=true:=d!
     have k2:=JZ (d:=d) ((s0:Nat):Int) aN
     have q3:(decide ((j9 ((s0:Nat):Int))=m))=true:=f
     obtain ⟨h4,ahG,ahH,qp,aeE,ahI,X',TV⟩:=yl.next (L:=L) (P:=P) o! (jV s0 o! f) hi aN
     have u5:cF env .add 68 false true (some (AV.int .u64 ((s0:Nat):Int))) (some (AV.int .u64 1))=some (AV.int .u64 ((s0+1:Nat):Int)):=Ac (a:=s0) (b:=1) o!
     have ev:=pk (d+2) C6 ((AV.cM b)::(Pt bn)::(Pt bm)::rx x 3 3 ((AV.int .u64 N)::(AV.int .u64 ((s0:Nat):Int))::rx x 8 13 [])) hh .normal h4 (VV (bZ 68 false false .u64 ((s0:Nat):Int) N)<|BB q1<|CN 3<|MM (aM 3 0 (Zi m) gm k!)<|EE k2<|VV (o_ 3 false false .i64 (j9 ((s0:Nat):Int)) m)<|CC<|BC q3<|BC q3<|BB q3<|AA (.e (.bool true) h4)<|HH ahH<|BC q3<|VV (pG false false q3)<|HH (aM 3 0 (Zi m) gm k!)<|HH (show AV.same 20 (Zi m) (Zi m)=true from aU 19 _ _)<|HH (aM 3 0 (Zi m) gm k!)<|HH (show AV.same 20 (Zi m) (Zi m)=true from aU 19 _ _)<|FF<|VV u5<|CC<|ZZ) k!
     refine dU.round rfl ev o! _ k! (fun x=>dU.S_ (zq yl jV hN k (s0+1) (L++[[AV.int .u64 ((s0:Nat):Int)]]) ahG x h4 qp (TV _ _ X9 gn) (TV _ _ X_ gm) ahI (fun h=>(X' _ h).elim X9 o!) (fun h=>(X' _ h).elim X_ o!) (by rw[List.length_append,List.length_singleton];omega) o!) fun _ hk hn q=>?_)
     obtain ⟨P',a1,a2,a3⟩:=q
     refine ⟨P',?_,fun j hj=>?_,fun j w hj gw=>a3 _ _ (fun h=>(X' _ h).elim hj (by have:=aN _ _ gw;omega)) (TV _ _ hj gw)⟩
     · rw[tF,f,ao]
       rw[List.append_assoc] at a1;exact a1
     · rcases a2 j hj with h | h
       · exact X' j h
       · exact .inr o!
   · skip
     have q1:(decide (((s0:Nat):Int)<N))=true:=d!
     have k2:=JZ (d:=d) ((s0:Nat):Int) aN
     have q3:(decide ((j9 ((s0:Nat):Int))=m))=false:=f
     have u4:cF env .add 68 false true (some (AV.int .u64 ((s0:Nat):Int))) (some (AV.int .u64 1))=some (AV.int .u64 ((s0+1:Nat):Int)):=Ac (a:=s0) (b:=1) o!
     have ev:=pk (d+2) C6 ((AV.cM b)::(Pt bn)::(Pt bm)::rx x 3 3 ((AV.int .u64 N)::(AV.int .u64 ((s0:Nat):Int))::rx x 8 13 [])) hh .normal hh (VV (bZ 68 false false .u64 ((s0:Nat):Int) N)<|BB q1<|CN 3<|MM (aM 3 0 (Zi m) gm k!)<|EE k2<|VV (o_ 3 false false .i64 (j9 ((s0:Nat):Int)) m)<|CC<|BB q3<|BB q3<|BB q3<|BV q3 (vG false q3)<|HH (aM 3 0 (Zi m) gm k!)<|HH (show AV.same 20 (Zi m) (Zi m)=true from aU 19 _ _)<|HH (aM 3 0 (Zi m) gm k!)<|HH (show AV.same 20 (Zi m) (Zi m)=true from aU 19 _ _)<|FF<|VV u4<|CC<|ZZ) k!
     refine dU.round rfl ev o! _ k! (fun x=>dU.S_ (zq yl jV hN k (s0+1) L P x hh aN gn gm hi X9 X_ o! o!) fun _ hk hn q=>?_)
     obtain ⟨P',a1,a2,a3⟩:=q
     exact ⟨P',by rw[tF,f,ai];exact a1,a2,a3⟩
theorem abG {d:Nat} {b bn bm:Nat} {n m:Int} {ok:List AV→Prop} {I:List (List AV)→(Nat→Prop)→au→Prop} (yl:Yl (cW (d+2)) b ok I) (jV:∀s:Nat,(s:Int)<qk .u64 1 n→decide (j9 ((s:Nat):Int)=m)=true→ok [AV.int .u64 ((s:Nat):Int)]) (h0:0≤n) (hn:n≤8) {P:Nat→Prop} {hh:au} (aN:Tidy hh) (gn:hh.get bn=some (.cells [Zi n] 3 false)) (gm:hh.get bm=some (.cells [Zi m] 3 false)) (hi:I [] P hh) (X9:¬P bn) (X_:¬P bm):
 ∃hk h' P',cW (d+3) (.fn 70) [.cM b,.ptr bn 0,.ptr bm 0] hh= .ret (.tuple []) hk∧Tidy h'∧hh.nx≤h'.nx∧I (tF m (qk .u64 1 n).toNat 0) P' h'∧(∀j,P' j→P j∨hh.nx≤j)∧Left P hh h'∧(hk=h'∨(hk=hh∧Has hh h')):=by
 have u1:cF env .shl 68 true false (some (AV.int .u64 1)) (some (Zi n))=some (AV.int .u64 (qk .u64 1 n)):=Td 68 true false .u64 .i64 o!
 obtain ⟨_,X3,h2,C2,gG,Hl,ahJ,ahK,ahL,aeI⟩:=zq (d:=d) (N:=(qk .u64 1 n)) yl jV (TU h0 hn).2 (qk .u64 1 n).toNat 0 [] P (fun k_=>(((AV.cM b)::(Pt bn)::(Pt bm)::AV.undef::AV.undef::(Zi n)::(AV.int .u64 (qk .u64 1 n))::(AV.int .u64 0)::kX 13):List AV).getD k_ AV.undef) hh aN gn gm hi X9 X_ (by have:=(TU h0 hn).2;rw[List.length_nil];omega) (by have:=(TU h0 hn).1;omega)
 have ev:=pk (d+2) zp ((AV.cM b)::(Pt bn)::(Pt bm)::kX 18) hh .normal h2 (MM (aM 3 0 (Zi n) gn k!)<|VV u1<|CC<|LL C2<|ZZ) k!
 obtain ⟨hk,e,q⟩:=kG rfl (bx (v:= .tuple []) Try.func70 abF k! (.inl rfl) ev k!)
 exact ⟨hk,h2,ahJ,e,gG,Hl,ahK,ahL,aeI,q⟩
def Yb:Code:=(Try.f45.body).getD .skip
theorem ahM:Try.f45.body=some Yb:=by kernel_rfl
theorem ahN {d:Nat} {n m:Int} {h:au} (bY:Tidy h):
 ∃bn bm hk,cW (d+2) (.fn 45) [Zi n,Zi m] h= .ret (.func 70 [] [Pt bn,Pt bm]) hk∧Tidy hk∧h.nx≤hk.nx∧Has h hk∧hk.get bn=some (.cells [Zi n] 3 false)∧hk.get bm=some (.cells [Zi m] 3 false)∧h.nx≤bn∧h.nx≤bm:=by
 obtain ⟨h1,cA,cq,jf,aY,ct⟩:=iQ bY (a_.cells [(Zi n)] 3 false)
 obtain ⟨h2,nv,gG,CP,fW,fJ⟩:=iQ cq (a_.cells [(Zi m)] 3 false)
 exact ⟨_,_,_,nX rfl (bx Try.func45 ahM rfl (.inr rfl) (pk (d+1) _ _ h _ h2 (NN cA (fun i=>(Pt i))<|NN nv (fun i=>(Pt i))<|CN 3<|ZZ) k!) k!) (fun q=>by cases q.2),gG,by omega,(ct.trans fJ),fJ _ _ aY,fW,by omega,by omega⟩
def Mm:Code:=(Try.f48.body).getD .skip
theorem Yc:Try.f48.body=some Mm:=by kernel_rfl
def xU (s:Int) (aD:Int):Bool:=(decide ((ae .u64 (aq .u64 s aD) 1)=1))
theorem N' {d:Nat} {h:au} (s:Int) (aD:Int) (mM:0≤aD) (bY:Tidy h):cW (d+1) (.fn 48) [(AV.int .u64 s),(Zi aD)] h= .ret (AV.bool (xU s aD)) h:=by
 have u1:cF env .shr 68 false false (some (AV.int .u64 s)) (some (Zi aD))=some (AV.int .u64 (aq .u64 s aD)):=mQ 68 false false .u64 .i64 o!
 have u2:cF env .and 68 false true (some (AV.int .u64 (aq .u64 s aD))) (some (AV.int .u64 1))=some (AV.int .u64 (ae .u64 (aq .u64 s aD) 1)):=lG 68 false true .u64 (aq .u64 s aD) 1
 have e:xU s aD=(decide ((ae .u64 (aq .u64 s aD) 1)=1)):=by simp only[xU,ao,ai]
 rw[e]
 exact aC rfl (bx Try.func48 Yc rfl (.inr rfl) (pk (d) _ _ h _ h (CN 3<|VV u1<|VV u2<|VV (o_ 68 false true .u64 (ae .u64 (aq .u64 s aD) 1) 1)<|CC<|ZZ) k!) k!) (Has.refl _) rfl
def A4:Code:=(Try.f58.body).getD .skip
theorem Hn:Try.f58.body=some A4:=by kernel_rfl
def bz (time:Int):Gate:=(⟨time,(-9223372036854775808),9223372036854775807⟩:Gate)
theorem xV {d:Nat} {h:au} (time:Int) (bY:Tidy h):cW (d+1) (.fn 58) [(Zi time)] h= .ret (AV.agg [(Zi (bz time).time),(Zi (bz time).ax),(Zi (bz time).ar)]) h:=by
 obtain ⟨h1,cA,cq,jf,aY,ct⟩:=iQ bY (a_.cells [(Zi 0),(Zi 0),(Zi 0)] 66 false)
 have bI:Has h h1:=ct
 obtain ⟨h2,ahO,gG,CP,fW,C1⟩:=xg (t:=66) (n:=3) (i:=h.nx) (L:=[(Zi time),(Zi (-9223372036854775808)),(Zi 9223372036854775807)]) cq aY k! rfl rfl (by simp only[AV.cells,List.all_cons,List.all_nil,Bool.and_true,Bool.and_self,fB,dZ,fC,fD,dh,iT,iU,iV,iW,iX,fE])
 have fF:Has h h2:=Has.cj bI C1 bY o!
 have e:bz time=(⟨time,(-9223372036854775808),9223372036854775807⟩:Gate):=by simp only[bz,ao,ai]
 rw[e]
 exact aC rfl (mL (a:=2) (t:=66) (i:=h.nx) Try.func58 Hn rfl (.inr rfl) (pk (d) _ _ h _ h2 (NN cA (fun i=>(Pt i))<|CN 3<|SS ahO<|ZZ) k!) k! (qe fW k!)) fF rfl
def D1:Code:=(Try.f46.body).getD .skip
theorem C7:Try.f46.body=some D1:=by kernel_rfl
def eL (q:ay) (r:az) (failed:Int):Gate:=(bif (xU failed r.aD) then (bz r.time) else (⟨r.time,(IntKind.i64.wrap (r.value -(ij (q.af.g r.aD.toNat) r.time))),(IntKind.i64.wrap (r.value+(ij (q.af.g r.aD.toNat) r.time)))⟩:Gate))
theorem Mn {d:Nat} {h:au} (q:ay) (r:az) (failed:Int) (jh:aA.ok h q) (h_r:aA.ok h r) (mM:0≤r.aD) (Ju:r.aD<(q.af.length:Int)) (bY:Tidy h):cW (d+2) (.fn 46) [(AV.agg [(AV.str q.name),(Zi q.aj),(Zi q.ah),(Zi q.aI),(Zi q.aK),(Zi q.bad),q.aB]),(AV.agg [(Zi r.aD),(Zi r.time),(Zi r.value)]),(AV.int .u64 failed)] h= .ret (AV.agg [(Zi (eL q r failed).time),(Zi (eL q r failed).ax),(Zi (eL q r failed).ar)]) h:=by
 have ky:=jh.2.small
 obtain ⟨h1,cA,cq,jf,aY,ct⟩:=iQ bY (a_.cells [(AV.str q.name),(Zi q.aj),(Zi q.ah),(Zi q.aI),(Zi q.aK),(Zi q.bad),q.aB] 26 false)
 have bI:Has h h1:=ct
 obtain ⟨h2,nv,gG,CP,fW,fJ⟩:=iQ cq (a_.cells [(Zi r.aD),(Zi r.time),(Zi r.value)] 43 false)
 have fF:Has h h2:=bI.trans fJ
 obtain ⟨h3,xQ,gF,Me,qo,fG⟩:=iQ gG (a_.cells [(Zi 0),(Zi 0),(Zi 0)] 66 false)
 have ik:Has h h3:=fF.trans fG
 have k4:=N' (d:=d) failed r.aD (by first | omega | assumption | (simp only[List.length_set,List.length_replicate,List.length_append,List.length_cons,List.length_nil,List.nil_append]<;>omega) | (rw[List.length_take];omega)) gF
 rcases Bool.eq_false_or_eq_true (xU failed r.aD) with f0 | f0
 · have k6:=xV (d:=d) r.time gF
   obtain ⟨h7,pJ,lM,Ha,lV,dX⟩:=xg (t:=66) (n:=3) (i:=h2.nx) (L:=[(Zi (bz r.time).time),(Zi (bz r.time).ax),(Zi (bz r.time).ar)]) gF qo k! rfl rfl (by simp only[AV.cells,List.all_cons,List.all_nil,Bool.and_true,Bool.and_self,fB,dZ,fC,fD,dh,iT,iU,iV,iW,iX,fE])
   have kJ:Has h h7:=Has.cj ik dX bY o!
   have e:eL q r failed=(bz r.time):=by simp only[eL,f0,ao,ai]
   rw[e]
   exact aC rfl (mL (a:=6) (t:=66) (i:=h2.nx) Try.func46 C7 rfl (.inr rfl) (pk (d+1) _ _ h _ h7 (NN cA (fun i=>(Pt i))<|NN nv (fun i=>(Pt i))<|NN xQ (fun i=>(Pt i))<|CN 2<|MM (aM 3 0 (Zi r.aD) (fG _ _ fW) k!)<|EE k4<|BC f0<|MM (aM 3 1 (Zi r.time) (fG _ _ fW) k!)<|EE k6<|SS pJ<|ZZ) k!) k! (qe lV k!)) kJ rfl
 · obtain ⟨p7,q8,S'⟩:=jh.2.elem (i:=r.aD.toNat) o!
   have LK:dr env (some (.slice 45)) (some q.aB) (some (Zi r.aD))=some (AV.ptr p7 q8):=by rw[show (r.aD:Int)=((r.aD.toNat:Nat):Int) by omega];exact S'
   have XR:bG env h3 45 (AV.ptr p7 q8)=some (AV.agg [(AV.str (q.af.g r.aD.toNat).name),(Zi (q.af.g r.aD.toNat).acc),(Zi (q.af.g r.aD.toNat).bP),(Zi (q.af.g r.aD.toNat).since)]):=(jh.2.has ik).load o! S'
   have QP:=JD (d:=d) (q.af.g r.aD.toNat) r.time (aA.mono ik (jh.2.ok (i:=r.aD.toNat) o!)) gF
   have c11:AV.same 20 q.aB q.aB=true:=jh.2.same 19
   have Tx:AV.same 20 (AV.agg [(AV.str (q.af.g r.aD.toNat).name),(Zi (q.af.g r.aD.toNat).acc),(Zi (q.af.g r.aD.toNat).bP),(Zi (q.af.g r.aD.toNat).since)]) (AV.agg [(AV.str (q.af.g r.aD.toNat).name),(Zi (q.af.g r.aD.toNat).acc),(Zi (q.af.g r.aD.toNat).bP),(Zi (q.af.g r.aD.toNat).since)])=true:=ie 18 (pR (fun n=>qc n _) (pR (fun n=>aU n _ _) (pR (fun n=>aU n _ _) (pR (fun n=>aU n _ _) Pq))))
   obtain ⟨H8,aeJ,E6,ajh,aeK,abH⟩:=xg (t:=66) (n:=3) (i:=h2.nx) (L:=[(Zi r.time),(Zi (IntKind.i64.wrap (r.value -(ij (q.af.g r.aD.toNat) r.time)))),(Zi (IntKind.i64.wrap (r.value+(ij (q.af.g r.aD.toNat) r.time))))]) gF qo k! rfl rfl (by simp only[AV.cells,List.all_cons,List.all_nil,Bool.and_true,Bool.and_self,fB,dZ,fC,fD,dh,iT,iU,iV,iW,iX,fE])
   have C8:Has h H8:=Has.cj ik abH bY o!
   have e:eL q r failed=(⟨r.time,(IntKind.i64.wrap (r.value -(ij (q.af.g r.aD.toNat) r.time))),(IntKind.i64.wrap (r.value+(ij (q.af.g r.aD.toNat) r.time)))⟩:Gate):=by simp only[eL,f0,ao,ai]
   rw[e]
   exact aC rfl (mL (a:=6) (t:=66) (i:=h2.nx) Try.func46 C7 rfl (.inr rfl) (pk (d+1) _ _ h _ H8 (NN cA (fun i=>(Pt i))<|NN nv (fun i=>(Pt i))<|NN xQ (fun i=>(Pt i))<|CN 2<|MM (aM 3 0 (Zi r.aD) (fG _ _ fW) k!)<|EE k4<|BC f0<|MM (aM 24 6 q.aB (fG _ _ (fJ _ _ aY)) k!)<|CC<|MM (aM 3 0 (Zi r.aD) (fG _ _ fW) k!)<|VV LK<|MM XR<|CC<|MM (aM 3 1 (Zi r.time) (fG _ _ fW) k!)<|EE QP<|CC<|HH (aM 24 6 q.aB (fG _ _ (fJ _ _ aY)) k!)<|HH c11<|HH (aM 3 0 (Zi r.aD) (fG _ _ fW) k!)<|HH (show AV.same 20 (Zi r.aD) (Zi r.aD)=true from aU 19 _ _)<|HH XR<|HH Tx<|HH (aM 3 1 (Zi r.time) (fG _ _ fW) k!)<|HH (show AV.same 20 (Zi r.time) (Zi r.time)=true from aU 19 _ _)<|CC<|MM (aM 3 1 (Zi r.time) (fG _ _ fW) k!)<|CC<|MM (aM 3 2 (Zi r.value) (fG _ _ fW) k!)<|CN 3<|MM (aM 3 2 (Zi r.value) (fG _ _ fW) k!)<|CN 4<|SS aeJ<|ZZ) k!) k! (qe aeK k!)) C8 rfl
structure YlH {X:Type} (call:bw) (b:Nat) (ok:au→List AV→X→Prop) (I:List X→(Nat→Prop)→au→Prop):Prop where
 aX:∀{L P hh},I L P hh→∀k,P k→k<hh.nx
 stay:∀{L P hh hk},I L P hh→Tidy hk→hh.nx≤hk.nx→(∀k w,P k→hh.get k=some w→hk.get k=some w)→I L P hk
 next:∀{L a x P hh},L.length<1000→ok hh a x→I L P hh→Tidy hh→∃hk P',call (.vk b) a hh= .ret (.bool true) hk∧Tidy hk∧hh.nx≤hk.nx∧I (L++[x]) P' hk∧(∀k,P' k→P k∨hh.nx≤k)∧∀k w,¬P k→hh.get k=some w→hk.get k=some w
theorem bC.sl {α:Type} [aA α] {h0 h:au} {z:AV} {l:List α} (o:bC h0 h z l) (hn:l≠ []):∃p op,z= .slice p 0 l.length l.length op∧h0.nx≤p∧h.get p=some (.cells (l.flatMap aA.c) (aA.e α) false):=by
 rcases o with ⟨_,rfl⟩ | ⟨_,p,op,e,hp,hg⟩
 · exact absurd rfl hn
 · exact ⟨p,op,e,hp,hg⟩
theorem bJ.ne {z:AV} {k p o n c:Nat} {b:Bool} (ni:bJ z k) (e:z= .slice p o n c b):k≠p:=fun q=>ni _ _ _ _ (by rw[e,q])
def oU:Code:=(Try.f44.body).getD .skip
theorem aeL:Try.f44.body=some oU:=by kernel_rfl
def fP:Code:=(cC oU).getD 0 .skip
def Ho:Code:=(cC oU).getD 1 .skip
def cG (q:ay) (l:List az) (s0:Int):Nat→Nat→List Gate→List Gate
 | 0,_,vY=>vY
 | bF+1,i1,vY=>cG q l s0 bF (i1+1) (vY++[(eL q (l.g i1) s0)])
theorem C9 {d:Nat} {rc:RC} {h:au} (s0:Int) (lv:AV) (l:List az) (q:ay) (rv:AV) (b:Nat) (r:List Gate) (dt:Nat) (fm:Nat) (oV:Nat) (zr:Nat) (qj:aZ h lv l) (me:q.name.length<2^60) (A5:aZ h q.aB q.af) (uJ:aZ h rv r) (zc:aA.ok h q) (Mo:∀k,k<l.length→0≤(l.g k).aD∧(l.g k).aD<(q.af.length:Int)) (TX:l.length≤12) (bY:Tidy h) (Mc:dt<h.nx) (X1:fm<h.nx) (ahP:oV<h.nx) (ahQ:zr<h.nx) (Mg:fm≠dt) (abI:oV≠dt) (abJ:oV≠fm) (abK:zr≠dt) (abL:zr≠fm) (abM:zr≠oV):∀(k_ i_:Nat) (vY:List Gate) (zt:AV) (_:i_+k_=l.length) (x:Nat→AV) (hh:au) (aN:Tidy hh) (bj:Has h hh) (jo:h.nx≤hh.nx) (dK:hh.get dt=some (a_.cells [(AV.str q.name),(Zi q.aj),(Zi q.ah),(Zi q.aI),(Zi q.aK),(Zi q.bad),q.aB] 26 false)) (jq:hh.get fm=some (a_.cells [rv] 69 false)) (oW:hh.get oV=some (a_.cells [lv] 27 false)) (Mp:hh.get zr=some (a_.cells [(AV.cM b)] 86 false)) (J0:bC h hh zt vY) (Hp:∀y∈vY,aA.ok hh y) (ZN:vY.length≤1*i_+2) (lN:bJ zt dt) (lO:bJ zt fm) (lP:bJ zt oV) (lQ:bJ zt zr),s_ rc (σ:=List Gate) (ζ:=AV) (cW (d+8)) Ho ⟨((x 0)::(Pt dt)::(x 2)::(Pt fm)::(Pt oV)::(Pt zr)::(AV.int .u64 s0)::zt::rx x 8 15 (lv::(Zn l.length)::(Zn i_)::rx x 26 24 [])),hh,[],rc⟩ (.exit 2) hh (fun r z y=>((y 0)::(Pt dt)::(y 2)::(Pt fm)::(Pt oV)::(Pt zr)::(AV.int .u64 s0)::z::rx y 8 15 (lv::(Zn l.length)::rx y 25 25 []))) (fun r z hk=>Has h hk∧hk.get dt=some (a_.cells [(AV.str q.name),(Zi q.aj),(Zi q.ah),(Zi q.aI),(Zi q.aK),(Zi q.bad),q.aB] 26 false)∧hk.get fm=some (a_.cells [rv] 69 false)∧hk.get oV=some (a_.cells [lv] 27 false)∧hk.get zr=some (a_.cells [(AV.cM b)] 86 false)∧bC h hk z r∧(∀y∈r,aA.ok hk y)∧r.length≤1*l.length+2∧bJ z dt∧bJ z fm∧bJ z oV∧bJ z zr) (cG q l s0 k_ i_ vY)
 | 0,i1,vY,zt,kY,x,hh,aN,bj,jo,dK,jq,oW,Mp,J0,Hp,ZN,lN,lO,lP,lQ=>by
   have C_:=qj.small
   have Mq:=A5.small
   have v7:=uJ.small
   have zd:=aN _ _ dK
   have Mh:=aN _ _ jq
   have TY:=aN _ _ oW
   have ahR:=aN _ _ Mp
   have rg_:=Mo i1
   have q1:(decide (((i1:Nat):Int)<((l.length:Nat):Int)))=false:=d!
   have ev:=XQ rc (d+8) Ho ((x 0)::(Pt dt)::(x 2)::(Pt fm)::(Pt oV)::(Pt zr)::(AV.int .u64 s0)::zt::rx x 8 15 (lv::(Zn l.length)::(Zn i1)::rx x 26 24 [])) hh (.exit 2) hh (VV (bZ 3 false false .i64 ((i1:Nat):Int) ((l.length:Nat):Int))<|BB q1<|ZZ) k!
   exact s_.out vY zt rfl ev aN o! ⟨bj,dK,jq,oW,Mp,J0,Hp,(by first | omega | (simp<;>omega)),lN,lO,lP,lQ⟩ k!
 | bF+1,i1,vY,zt,kY,x,hh,aN,bj,jo,dK,jq,oW,Mp,J0,Hp,ZN,lN,lO,lP,lQ=>by
   have C_:=qj.small
   have Mq:=A5.small
   have v7:=uJ.small
   have zd:=aN _ _ dK
   have Mh:=aN _ _ jq
   have TY:=aN _ _ oW
   have ahR:=aN _ _ Mp
   have rg_:=Mo i1
   have q1:(decide (((i1:Nat):Int)<((l.length:Nat):Int)))=true:=d!
   obtain ⟨p3,q4,lE⟩:=qj.elem (i:=i1) o!
   have xp:dr env (some (.slice 43)) (some lv) (some (Zn i1))=some (AV.ptr p3 q4):=lE
   have AZ:bG env hh 43 (AV.ptr p3 q4)=some (AV.agg [(Zi (l.g i1).aD),(Zi (l.g i1).time),(Zi (l.g i1).value)]):=(qj.has bj).load o! lE
   obtain ⟨h6,zh,mh,JH,ti,lL⟩:=iQ aN (a_.cells [(Zi 0),(Zi 0),(Zi 0)] 43 false)
   have nu:Has h h6:=bj.trans lL
   have iN:Has hh h6:=lL
   obtain ⟨h7,pJ,lM,Ha,lV,dX⟩:=xg (t:=43) (n:=3) (i:=hh.nx) (L:=[(Zi (l.g i1).aD),(Zi (l.g i1).time),(Zi (l.g i1).value)]) mh ti k! rfl rfl (by simp only[AV.cells,List.all_cons,List.all_nil,Bool.and_true,Bool.and_self,fB,dZ,fC,fD,dh,iT,iU,iV,iW,iX,fE])
   have kJ:Has h h7:=Has.cj nu dX bY o!
   have jU:Has hh h7:=Has.cj iN dX aN o!
   have Mr:bC h h7 zt vY:=bC.kept (bC.has J0 iN) dX (bC.s7 aN J0 o!)
   have k8:=Mn (d:=d+6) q (l.g i1) s0 (aA.mono kJ zc) trivial (by first | omega | assumption | (simp only[List.length_set,List.length_replicate,List.length_append,List.length_cons,List.length_nil,List.nil_append]<;>omega) | (rw[List.length_take];omega)) (by first | omega | assumption | (simp only[List.length_set,List.length_replicate,List.length_append,List.length_cons,List.length_nil,List.nil_append]<;>omega) | (rw[List.length_take];omega)) lM
   obtain ⟨h9,ahS,AY,akb,ahT,Da⟩:=iQ lM (a_.cells [(Zi (eL q (l.g i1) s0).time),(Zi (eL q (l.g i1) s0).ax),(Zi (eL q (l.g i1) s0).ar)] 66 false)
   have DS:Has h h9:=kJ.trans Da
   have agC:Has hh h9:=jU.trans Da
   have Yd:Has h7 h9:=Da
   obtain ⟨z11,rZ,abN,mP,NV,aeM,ahU,ru,Hq⟩:=bC.Jt (tys:= #[69,69]) (l:=vY) (m:=[(eL q (l.g i1) s0)]) (x:=(AV.slice h7.nx 0 1 1 false)) AY bY DS o! (bC.has Mr Yd) rfl (mb (x:=(eL q (l.g i1) s0)) ahT) (by simp [aA.c,Gate.c,AV.scalar]) (by first | omega | (simp<;>omega)) rfl rfl k! k! (bytes:=24) k! (z0:=(AV.agg [(Zi 0),(Zi 0),(Zi 0)])) k! rfl (by decide)
   have lW:Has h rZ:=aeM
   have abO:∀y∈(vY++[(eL q (l.g i1) s0)]),aA.ok rZ y:=eJ (D:=Gate) (nq (eJ (D:=Gate) (h':=h9) Hp) (ok_one trivial))
   have Tt:=fj 3 false true i1 1 o!
   have ev:=XQ rc (d+8) Ho ((x 0)::(Pt dt)::(x 2)::(Pt fm)::(Pt oV)::(Pt zr)::(AV.int .u64 s0)::zt::rx x 8 15 (lv::(Zn l.length)::(Zn i1)::rx x 26 24 [])) hh .normal rZ (VV (bZ 3 false false .i64 ((i1:Nat):Int) ((l.length:Nat):Int))<|BV q1 xp<|MM AZ<|NN zh (fun i=>(Pt i))<|SS pJ<|CC<|MM (aM 26 0 (AV.agg [(AV.str q.name),(Zi q.aj),(Zi q.ah),(Zi q.aI),(Zi q.aK),(Zi q.bad),q.aB]) (dX _ _ o! (lL _ _ dK)) k!)<|MM (aM 43 0 (AV.agg [(Zi (l.g i1).aD),(Zi (l.g i1).time),(Zi (l.g i1).value)]) lV k!)<|CC<|EE k8<|NN ahS (fun i=>(AV.slice i 0 1 1 false))<|PP (show bU env h9 #[69,69] zt (AV.slice h7.nx 0 1 1 false)=some (z11,rZ) from abN)<|CC<|VV Tt<|CC<|ZZ) k!
   exact s_.round (by simp only[cG,ao,ai]) ev o! _ k! (fun x=>C9 s0 lv l q rv b r dt fm oV zr qj me A5 uJ zc Mo TX bY Mc X1 ahP ahQ Mg abI abJ abK abL abM bF (i1+1) (vY++[(eL q (l.g i1) s0)]) z11 o! x rZ mP lW o! (ru _ _ lN (Da _ _ (dX _ _ o! (lL _ _ dK)))) (ru _ _ lO (Da _ _ (dX _ _ o! (lL _ _ jq)))) (ru _ _ lP (Da _ _ (dX _ _ o! (lL _ _ oW)))) (ru _ _ lQ (Da _ _ (dX _ _ o! (lL _ _ Mp)))) ahU abO (by first | omega | (simp<;>omega)) (Hq _ (AY _ _ (Da _ _ (dX _ _ o! (lL _ _ dK)))) lN) (Hq _ (AY _ _ (Da _ _ (dX _ _ o! (lL _ _ jq)))) lO) (Hq _ (AY _ _ (Da _ _ (dX _ _ o! (lL _ _ oW)))) lP) (Hq _ (AY _ _ (Da _ _ (dX _ _ o! (lL _ _ Mp)))) lQ))
theorem Ms (q:ay) (l:List az) (s0:Int):∀(k i:Nat) (v:List Gate),i+k=l.length→cG q l s0 k i v=v++(l.drop i).map fun r=>eL q r s0
 | 0,i,v,h=>by rw[cG,List.drop_eq_nil_of_le o!,List.map_nil,List.append_nil]
 | k+1,i,v,h=>by
   rw[cG,Ms q l s0 k (i+1) _ o!,List.drop_eq_getElem_cons (show i<l.length by omega),List.map_cons,List.append_assoc]
   have:l.g i=l[i]'o! :=by rw[List.g,List.getD_eq_getElem?_getD,List.getElem?_eq_getElem o!];rfl
   rw[this];rfl
theorem Db {q:ay} {l:List az} {s0:Int} {g:Gate} {r:List Gate} (_:Unit):cG q l s0 l.length 0 ([g]++r)≠ []:=by
 rw[Ms q l s0 _ _ _ o!];simp
theorem TZ {d:Nat} {h:au} {q:ay} {l:List az} {r:List Gate} {m s0:Int} {lv rv:AV} {b bq bm br bl by_ lp:Nat} (x:Nat→AV) (bY:Tidy h) (hq:aA.ok h q) (hl:aZ h lv l) (hr:aZ h rv r) (F2:l.length≤12) (hrl:r.length≤1) (hg:∀k,k<l.length→0≤(l.g k).aD∧(l.g k).aD<(q.af.length:Int)) (gq:h.get bq=some (.cells (aA.c q) 26 false)) (gm:h.get bm=some (.cells [Zi m] 3 false)) (gr:h.get br=some (.cells [rv] 69 false)) (gl:h.get bl=some (.cells [lv] 27 false)) (gy:h.get by_=some (.cells [.cM b] 86 false)) (dd:bq<bl∧bl<bm∧bm<br∧br<by_) (hc:(iZ q (cG q l s0 l.length 0 (([(⟨0,q.aj,q.ah⟩:Gate)])++r)).length ((cG q l s0 l.length 0 (([(⟨0,q.aj,q.ah⟩:Gate)])++r)).length - 1) 1 (eZ (cG q l s0 l.length 0 (([(⟨0,q.aj,q.ah⟩:Gate)])++r)).length ((cG q l s0 l.length 0 (([(⟨0,q.aj,q.ah⟩:Gate)])++r)).length - 1) 1 (cG q l s0 l.length 0 (([(⟨0,q.aj,q.ah⟩:Gate)])++r))))=none):
 ∃jH h',Ev env (cW (d+8)) fP ⟨((AV.cM b)::(Pt bq)::(Pt bm)::(Pt br)::(Pt bl)::(Pt by_)::(AV.int .u64 s0)::rx x 7 9 ((AV.int .u64 s0)::rx x 17 33 [])),h,[],.pP lp⟩ .normal ⟨jH,h',[],.pP lp⟩∧Tidy h'∧h.nx≤h'.nx∧Has h h':=by
 have T_q:=bY _ _ gq
 have T_m:=bY _ _ gm
 have T_r:=bY _ _ gr
 have T_l:=bY _ _ gl
 have T_y:=bY _ _ gy
 have s_l:=hl.small
 have s_r:=hr.small
 obtain ⟨h1,cA,cq,jf,aY,ct⟩:=iQ bY (a_.cells [(Zi 0),(Zi q.aj),(Zi q.ah)] 66 false)
 have bI:Has h h1:=ct
 have oz5:bC h h1 (AV.slice h.nx 0 1 1 false) [(⟨0,q.aj,q.ah⟩:Gate)]:= .inr ⟨by simp,h.nx,false,rfl,by omega,aY⟩
 obtain ⟨z3,h2,T6,gG,Hl,abP,oz4,tG,xW⟩:=bC.Jt (tys:= #[69,69]) (l:=[(⟨0,q.aj,q.ah⟩:Gate)]) (m:=r) (x:=rv) cq bY bI o! oz5 (hr.has bI).kV (hr.has bI).first (kN (hr.has bI) (fun y hy=>by simp [aA.c,Gate.c,AV.scalar])) (by first | omega | (simp<;>omega)) rfl rfl k! k! (bytes:=24) k! (z0:=(AV.agg [(Zi 0),(Zi 0),(Zi 0)])) k! rfl (by decide)
 have fF:Has h h2:=abP
 have T7:∀y∈(([(⟨0,q.aj,q.ah⟩:Gate)])++r),aA.ok h2 y:=eJ (D:=Gate) (nq (eJ (D:=Gate) (h':=h1) (ok_one (h:=h1) trivial)) (hr.has bI).GU)
 have KL:dJ (some (.slice 43)) (some lv)=some (Zn l.length):=hl.len
 obtain ⟨zo9,yl7,h8,Mt,J1,abQ,T8,Mu,abR,abS,T_,Dc,Hr,abT,A6,A7,A8,rN⟩:=C9 (d:=d) (rc:=(.pP lp)) (h:=h) s0 lv l q rv b r bq br bl by_ hl hq.1 hq.2 hr hq hg F2 bY o! o! o! o! o! o! o! o! o! o! l.length 0 (([(⟨0,q.aj,q.ah⟩:Gate)])++r) z3 o! (fun k_=>(((AV.cM b)::(Pt bq)::(Pt bm)::(Pt br)::(Pt bl)::(Pt by_)::(AV.int .u64 s0)::z3::rx x 8 8 ((AV.int .u64 s0)::(AV.ptr bq 1)::(AV.agg [(Zi q.aj),(Zi q.ah)])::(AV.agg [(Zi 0),(Zi q.aj),(Zi q.ah)])::(AV.slice h.nx 0 1 1 false)::rv::z3::lv::(Zn l.length)::(Zi 0)::rx x 26 24 [])):List AV).getD k_ AV.undef) h2 gG fF o! (tG _ _ (bJ.slice o!) (ct _ _ gq)) (tG _ _ (bJ.slice o!) (ct _ _ gr)) (tG _ _ (bJ.slice o!) (ct _ _ gl)) (tG _ _ (bJ.slice o!) (ct _ _ gy)) oz4 T7 (by first | omega | (simp<;>omega)) (xW _ (cq _ _ (ct _ _ gq)) (bJ.slice o!)) (xW _ (cq _ _ (ct _ _ gr)) (bJ.slice o!)) (xW _ (cq _ _ (ct _ _ gl)) (bJ.slice o!)) (xW _ (cq _ _ (ct _ _ gy)) (bJ.slice o!))
 have Mv:aZ h8 zo9 (cG q l s0 l.length 0 (([(⟨0,q.aj,q.ah⟩:Gate)])++r)):=bC.rows Dc o! Hr
 have Ye:=Mv.small
 have Dd:Has h h8:=T8
 obtain ⟨Yf,T',Hs,De,Mw⟩:=bC.sl Dc (Db ())
 obtain ⟨rZ,abU,Df,mP,NV,ru,Ua,Mx⟩:=aeD (d:=d) (g:=h) (p:=Yf) (op:=T') (L:=(cG q l s0 l.length 0 (([(⟨0,q.aj,q.ah⟩:Gate)])++r))) q hq Dd (xL bY De) J1 Mw rfl o! (List.length_pos_iff.2 (Db ()))
 rw[Ua hc] at Df
 have Ub:(cW (d+8)) (.fn 47) [(AV.agg [(AV.str q.name),(Zi q.aj),(Zi q.ah),(Zi q.aI),(Zi q.aK),(Zi q.bad),q.aB]),zo9] h8= .ret AV.aQ rZ:=by rw[Hs];exact Df
 have lW:Has h rZ:=(Has.cj Dd ru bY De)
 have ev:=XQ (.pP lp) (d+8) fP ((AV.cM b)::(Pt bq)::(Pt bm)::(Pt br)::(Pt bl)::(Pt by_)::(AV.int .u64 s0)::rx x 7 9 ((AV.int .u64 s0)::rx x 17 33 [])) h .normal rZ (CC<|MM (aM 23 1 (AV.agg [(Zi q.aj),(Zi q.ah)]) gq k!)<|CC<|NN cA (fun i=>(AV.slice i 0 1 1 false))<|MM (aM 69 0 rv (ct _ _ gr) k!)<|PP (show bU env h1 #[69,69] (AV.slice h.nx 0 1 1 false) rv=some (z3,h2) from T6)<|CC<|MM (aM 27 0 lv (tG _ _ (bJ.slice o!) (ct _ _ gl)) k!)<|VV KL<|CC<|LL Mt<|MM (aM 26 0 (AV.agg [(AV.str q.name),(Zi q.aj),(Zi q.ah),(Zi q.aI),(Zi q.aK),(Zi q.bad),q.aB]) Mu k!)<|CC<|EE Ub<|CN 5<|FF<|FF<|FF<|FF<|FF<|CC<|FF<|ZZ) k!
 exact ⟨_,_,ev,mP,by omega,lW⟩
theorem Uc {d:Nat} {h:au} {q:ay} {l:List az} {r:List Gate} {m s0:Int} {lv rv:AV} {b bq bm br bl by_ lp:Nat} (x:Nat→AV) (bY:Tidy h) (hq:aA.ok h q) (hl:aZ h lv l) (hr:aZ h rv r) (F2:l.length≤12) (hrl:r.length≤1) (hg:∀k,k<l.length→0≤(l.g k).aD∧(l.g k).aD<(q.af.length:Int)) (gq:h.get bq=some (.cells (aA.c q) 26 false)) (gm:h.get bm=some (.cells [Zi m] 3 false)) (gr:h.get br=some (.cells [rv] 69 false)) (gl:h.get bl=some (.cells [lv] 27 false)) (gy:h.get by_=some (.cells [.cM b] 86 false)) (dd:bq<bl∧bl<bm∧bm<br∧br<by_) {w:List Gate} (hc:(iZ q (cG q l s0 l.length 0 (([(⟨0,q.aj,q.ah⟩:Gate)])++r)).length ((cG q l s0 l.length 0 (([(⟨0,q.aj,q.ah⟩:Gate)])++r)).length - 1) 1 (eZ (cG q l s0 l.length 0 (([(⟨0,q.aj,q.ah⟩:Gate)])++r)).length ((cG q l s0 l.length 0 (([(⟨0,q.aj,q.ah⟩:Gate)])++r)).length - 1) 1 (cG q l s0 l.length 0 (([(⟨0,q.aj,q.ah⟩:Gate)])++r))))=some w) {ok:au→List AV→(Int×List Gate)→Prop} {I:List (Int×List Gate)→(Nat→Prop)→au→Prop} (yl:YlH (cW (d+8)) b ok I) {L:List (Int×List Gate)} {P:Nat→Prop} (hLL:L.length<1000) (hi:I L P h) (jV:∀{hk:au} {p:Nat} {op:Bool},hk.get p=some (.cells (List.flatMap (aA.c (α:=Gate)) (ja q ((cG q l s0 l.length 0 (([(⟨0,q.aj,q.ah⟩:Gate)])++r)).length - 1) 0 w)) 66 false)→ok hk [.int .u64 s0,.slice p 0 (cG q l s0 l.length 0 (([(⟨0,q.aj,q.ah⟩:Gate)])++r)).length (cG q l s0 l.length 0 (([(⟨0,q.aj,q.ah⟩:Gate)])++r)).length op] (s0,ja q ((cG q l s0 l.length 0 (([(⟨0,q.aj,q.ah⟩:Gate)])++r)).length - 1) 0 w)) (akc:¬P bq) (akd:¬P bm) (ake:¬P br) (akf:¬P bl) (ajj:¬P by_):
 ∃jH h' P',Ev env (cW (d+8)) fP ⟨((AV.cM b)::(Pt bq)::(Pt bm)::(Pt br)::(Pt bl)::(Pt by_)::(AV.int .u64 s0)::rx x 7 9 ((AV.int .u64 s0)::rx x 17 33 [])),h,[],.pP lp⟩ .normal ⟨jH,h',[],.pP lp⟩∧Tidy h'∧h.nx≤h'.nx∧I (L++[(s0,ja q ((cG q l s0 l.length 0 (([(⟨0,q.aj,q.ah⟩:Gate)])++r)).length - 1) 0 w)]) P' h'∧(∀j,P' j→P j∨h.nx≤j)∧Left P h h':=by
 have T_q:=bY _ _ gq
 have T_m:=bY _ _ gm
 have T_r:=bY _ _ gr
 have T_l:=bY _ _ gl
 have T_y:=bY _ _ gy
 have s_l:=hl.small
 have s_r:=hr.small
 have np_:0<(cG q l s0 l.length 0 (([(⟨0,q.aj,q.ah⟩:Gate)])++r)).length:=List.length_pos_iff.2 (Db ())
 obtain ⟨h1,cA,cq,jf,aY,ct⟩:=iQ bY (a_.cells [(Zi 0),(Zi q.aj),(Zi q.ah)] 66 false)
 have bI:Has h h1:=ct
 have oz5:bC h h1 (AV.slice h.nx 0 1 1 false) [(⟨0,q.aj,q.ah⟩:Gate)]:= .inr ⟨by simp,h.nx,false,rfl,by omega,aY⟩
 obtain ⟨z3,h2,T6,gG,Hl,abP,oz4,tG,xW⟩:=bC.Jt (tys:= #[69,69]) (l:=[(⟨0,q.aj,q.ah⟩:Gate)]) (m:=r) (x:=rv) cq bY bI o! oz5 (hr.has bI).kV (hr.has bI).first (kN (hr.has bI) (fun y hy=>by simp [aA.c,Gate.c,AV.scalar])) (by first | omega | (simp<;>omega)) rfl rfl k! k! (bytes:=24) k! (z0:=(AV.agg [(Zi 0),(Zi 0),(Zi 0)])) k! rfl (by decide)
 have fF:Has h h2:=abP
 have T7:∀y∈(([(⟨0,q.aj,q.ah⟩:Gate)])++r),aA.ok h2 y:=eJ (D:=Gate) (nq (eJ (D:=Gate) (h':=h1) (ok_one (h:=h1) trivial)) (hr.has bI).GU)
 have KL:dJ (some (.slice 43)) (some lv)=some (Zn l.length):=hl.len
 obtain ⟨zo9,yl7,h8,Mt,J1,abQ,T8,Mu,abR,abS,T_,Dc,Hr,abT,A6,A7,A8,rN⟩:=C9 (d:=d) (rc:=(.pP lp)) (h:=h) s0 lv l q rv b r bq br bl by_ hl hq.1 hq.2 hr hq hg F2 bY o! o! o! o! o! o! o! o! o! o! l.length 0 (([(⟨0,q.aj,q.ah⟩:Gate)])++r) z3 o! (fun k_=>(((AV.cM b)::(Pt bq)::(Pt bm)::(Pt br)::(Pt bl)::(Pt by_)::(AV.int .u64 s0)::z3::rx x 8 8 ((AV.int .u64 s0)::(AV.ptr bq 1)::(AV.agg [(Zi q.aj),(Zi q.ah)])::(AV.agg [(Zi 0),(Zi q.aj),(Zi q.ah)])::(AV.slice h.nx 0 1 1 false)::rv::z3::lv::(Zn l.length)::(Zi 0)::rx x 26 24 [])):List AV).getD k_ AV.undef) h2 gG fF o! (tG _ _ (bJ.slice o!) (ct _ _ gq)) (tG _ _ (bJ.slice o!) (ct _ _ gr)) (tG _ _ (bJ.slice o!) (ct _ _ gl)) (tG _ _ (bJ.slice o!) (ct _ _ gy)) oz4 T7 (by first | omega | (simp<;>omega)) (xW _ (cq _ _ (ct _ _ gq)) (bJ.slice o!)) (xW _ (cq _ _ (ct _ _ gr)) (bJ.slice o!)) (xW _ (cq _ _ (ct _ _ gl)) (bJ.slice o!)) (xW _ (cq _ _ (ct _ _ gy)) (bJ.slice o!))
 have Mv:aZ h8 zo9 (cG q l s0 l.length 0 (([(⟨0,q.aj,q.ah⟩:Gate)])++r)):=bC.rows Dc o! Hr
 have Ye:=Mv.small
 have Dd:Has h h8:=T8
 obtain ⟨Yf,T',Hs,De,Mw⟩:=bC.sl Dc (Db ())
 obtain ⟨rZ,abU,Df,mP,NV,ru,Ua,Mx⟩:=aeD (d:=d) (g:=h) (p:=Yf) (op:=T') (L:=(cG q l s0 l.length 0 (([(⟨0,q.aj,q.ah⟩:Gate)])++r))) q hq Dd (xL bY De) J1 Mw rfl o! (List.length_pos_iff.2 (Db ()))
 rw[(Mx _ hc).1] at Df
 have Ub:(cW (d+8)) (.fn 47) [(AV.agg [(AV.str q.name),(Zi q.aj),(Zi q.ah),(Zi q.aI),(Zi q.aK),(Zi q.bad),q.aB]),zo9] h8= .ret (AV.slice Yf 0 (cG q l s0 l.length 0 (([(⟨0,q.aj,q.ah⟩:Gate)])++r)).length (cG q l s0 l.length 0 (([(⟨0,q.aj,q.ah⟩:Gate)])++r)).length T') rZ:=by rw[Hs];exact Df
 have lW:Has h rZ:=(Has.cj Dd ru bY De)
 have H2:(decide (0<(((cG q l s0 l.length 0 (([(⟨0,q.aj,q.ah⟩:Gate)])++r)).length:Nat):Int)))=true:=d!
 obtain ⟨PM,aeN,Dg,Ud,aeO,aeP,aeQ,abV⟩:=yl.next (L:=L) (P:=P) hLL (jV (op:=T') (Mx _ hc).2) (yl.stay hi mP o! (fun k w _ g=>lW _ _ g)) mP
 have ev:=XQ (.pP lp) (d+8) fP ((AV.cM b)::(Pt bq)::(Pt bm)::(Pt br)::(Pt bl)::(Pt by_)::(AV.int .u64 s0)::rx x 7 9 ((AV.int .u64 s0)::rx x 17 33 [])) h .normal PM (CC<|MM (aM 23 1 (AV.agg [(Zi q.aj),(Zi q.ah)]) gq k!)<|CC<|NN cA (fun i=>(AV.slice i 0 1 1 false))<|MM (aM 69 0 rv (ct _ _ gr) k!)<|PP (show bU env h1 #[69,69] (AV.slice h.nx 0 1 1 false) rv=some (z3,h2) from T6)<|CC<|MM (aM 27 0 lv (tG _ _ (bJ.slice o!) (ct _ _ gl)) k!)<|VV KL<|CC<|LL Mt<|MM (aM 26 0 (AV.agg [(AV.str q.name),(Zi q.aj),(Zi q.ah),(Zi q.aI),(Zi q.aK),(Zi q.bad),q.aB]) Mu k!)<|CC<|EE Ub<|CN 3<|VV (cg 3 false true .i64 (((cG q l s0 l.length 0 (([(⟨0,q.aj,q.ah⟩:Gate)])++r)).length:Nat):Int) 0)<|CC<|BM H2 (aM 86 0 (AV.cM b) (ru _ _ (rN.ne Hs) T_) k!)<|BC H2<|BC H2<|BB H2<|AA (.e (.bool true) PM)<|HH Dg<|BC H2<|VV (pG false false H2)<|FF<|ZZ) k!
 exact ⟨_,_,aeN,ev,Ud,by omega,aeP,fun j hj=>(aeQ j hj).imp id fun _=>by omega,fun j w hj gw=>abV _ _ hj (lW _ _ gw)⟩
def PN:Code→Code
 | .seq a b=>match PN a with
   | .skip=>PN b
   | c=>c
 | .block _ b=>PN b
 | .rangeFunc _ _ a _=>a
 | _=> .skip
def jF:Code:=PN oU
theorem Ap {call:bw} {c:Code} {s:St} {e:hZ} {L L':List AV} {h:au} {rc:RC} (q:L=L') (ev:Ev env call c s e ⟨L,h,[],rc⟩):Ev env call c s e ⟨L',h,[],rc⟩:=q▸ev
theorem Oa {d:Nat} (x:Nat→AV) (b bq bm br bl by_ lp:Nat) (s0:Int) (h:au):
 Ev env (cW (d+8)) jF ⟨(AV.cM b)::(Pt bq)::(Pt bm)::(Pt br)::(Pt bl)::(Pt by_)::rx x 6 10 ((AV.int .u64 s0)::rx x 17 33 []),h,[],.pP lp⟩ .normal ⟨(AV.cM b)::(Pt bq)::(Pt bm)::(Pt br)::(Pt bl)::(Pt by_)::(AV.int .u64 s0)::rx x 7 9 ((AV.int .u64 s0)::rx x 17 33 []),h,[],.pP lp⟩:=by
 have ev:=XQ (.pP lp) (d+8) jF ((AV.cM b)::(Pt bq)::(Pt bm)::(Pt br)::(Pt bl)::(Pt by_)::rx x 6 10 ((AV.int .u64 s0)::rx x 17 33 [])) h .normal h (CC<|ZZ) k!
 exact Ap (by kernel_rfl) ev
theorem Ob (x:Nat→AV) (b bq bm br bl by_:Nat) (a:AV):([16].zip [a]).foldl (fun ts y=>ts.set y.1 y.2) ((AV.cM b)::(Pt bq)::(Pt bm)::(Pt br)::(Pt bl)::(Pt by_)::rx x 6 44 [])=(AV.cM b)::(Pt bq)::(Pt bm)::(Pt br)::(Pt bl)::(Pt by_)::rx x 6 10 (a::rx x 17 33 []):=by kernel_rfl
def uY (q:ay) (l:List az) (r:List Gate) (s0:Int):Nat:=(cG q l s0 l.length 0 (([(⟨0,q.aj,q.ah⟩:Gate)])++r)).length
def dG (q:ay) (l:List az) (r:List Gate) (s0:Int):Option (List Gate):=(iZ q (cG q l s0 l.length 0 (([(⟨0,q.aj,q.ah⟩:Gate)])++r)).length ((cG q l s0 l.length 0 (([(⟨0,q.aj,q.ah⟩:Gate)])++r)).length - 1) 1 (eZ (cG q l s0 l.length 0 (([(⟨0,q.aj,q.ah⟩:Gate)])++r)).length ((cG q l s0 l.length 0 (([(⟨0,q.aj,q.ah⟩:Gate)])++r)).length - 1) 1 (cG q l s0 l.length 0 (([(⟨0,q.aj,q.ah⟩:Gate)])++r)))).map (ja q ((cG q l s0 l.length 0 (([(⟨0,q.aj,q.ah⟩:Gate)])++r)).length - 1) 0)
def Oc (q:ay) (l:List az) (r:List Gate):List AV→Option (Int×List Gate)
 | [.int .u64 s]=>(dG q l r s).map fun w=>(s,w)
 | _=>none
def mi (x:Nat→AV) (b bq bm br bl by_:Nat):List AV:=(AV.cM b)::(Pt bq)::(Pt bm)::(Pt br)::(Pt bl)::(Pt by_)::rx x 6 44 []
def ExI (I:List (Int×List Gate)→(Nat→Prop)→au→Prop) (g:au) (q:ay) (l:List az) (r:List Gate) (m:Int) (lv rv:AV) (b bq bm br bl by_ lp:Nat) (x:Nat→AV) (dn:Nat) (L:List (List AV)) (P':Nat→Prop) (hh:au):Prop:=
 ∃P0:Nat→Prop,I (L.filterMap (Oc q l r)) P0 hh∧Has g hh∧g.nx≤hh.nx∧lp<hh.nx∧hh.get bq=some (.cells (aA.c q) 26 false)∧hh.get bm=some (.cells [Zi m] 3 false)∧hh.get br=some (.cells [rv] 69 false)∧hh.get bl=some (.cells [lv] 27 false)∧hh.get by_=some (.cells [.cM b] 86 false)∧hh.get lp=some (.loop .ready none (mi x b bq bm br bl by_) [16] jF fP dn)∧(∀k,P0 k→g.get k=none∧k≠bq∧k≠bm∧k≠br∧k≠bl∧k≠by_∧k≠lp)∧∀k,P' k↔(P0 k∨(∃w,g.get k=some w)∨k=bq∨k=bm∨k=br∨k=bl∨k=by_∨k=lp)
theorem abW {d:Nat} {g:au} {q:ay} {l:List az} {r:List Gate} {m:Int} {lv rv:AV} {b bq bm br bl by_ lp:Nat} (x:Nat→AV) (dn:Nat) (QX:Tidy g) (hq:aA.ok g q) (hl:aZ g lv l) (hr:aZ g rv r) (F2:l.length≤12) (hrl:r.length≤1) (hg:∀k,k<l.length→0≤(l.g k).aD∧(l.g k).aD<(q.af.length:Int)) (dd:bq<bl∧bl<bm∧bm<br∧br<by_) (gb:g.nx≤bq) (bp:by_<lp)
 {ok:au→List AV→(Int×List Gate)→Prop} {I:List (Int×List Gate)→(Nat→Prop)→au→Prop} (yl:YlH (cW (d+8)) b ok I) (jV:∀{s0:Int} {w:List Gate} {hk:au} {p:Nat} {op:Bool},dG q l r s0=some w→hk.get p=some (.cells (List.flatMap (aA.c (α:=Gate)) w) 66 false)→ok hk [.int .u64 s0,.slice p 0 (uY q l r s0) (uY q l r s0) op] (s0,w)):
 Yl (cW (d+9)) lp (fun a=>∃s0:Int,a=[AV.int .u64 s0]) (ExI I g q l r m lv rv b bq bm br bl by_ lp x dn) where
 aX:=by
  rintro L P' hh ⟨P0,i0,ag,gn,gx,gq,gm,gr,gl,gy,gp,nP,pp⟩ k hk
  rcases (pp k).1 hk with p | ⟨w,p⟩ | p
  · exact yl.aX i0 k p
  · have:=QX _ _ p;omega
  · omega
 stay:=by
  rintro L P' hh hk ⟨P0,i0,ag,gn,gx,gq,gm,gr,gl,gy,gp,nP,pp⟩ yk nk kp
  have K:=fun k w (c:P0 k∨(∃w,g.get k=some w)∨k=bq∨k=bm∨k=br∨k=bl∨k=by_∨k=lp) e=>kp k w ((pp k).2 c) e
  exact ⟨P0,yl.stay i0 yk nk fun k w p e=>K k w (.inl p) e,fun k w e=>K k w (.inr (.inl ⟨_,e⟩)) (ag _ _ e),by omega,by omega,K _ _ (by simp) gq,K _ _ (by simp) gm,K _ _ (by simp) gr,K _ _ (by simp) gl,K _ _ (by simp) gy,K _ _ (by simp) gp,nP,pp⟩
 next:=by
  rintro L a P' hh hLL ⟨s0,rfl⟩ ⟨P0,i0,ag,gn,gx,gq,gm,gr,gl,gy,gp,nP,pp⟩ y
  have T1:=y _ _ gp
  have c1:=jR (o:= .loop .busy none (mi x b bq bm br bl by_) [16] jF fP dn) y gp
  have ag1:Has g (hh.put lp (some (.loop .busy none (mi x b bq bm br bl by_) [16] jF fP dn))):=fun k w e=>c1.2.2 _ _ (fun e'=>by have:=QX _ _ e;omega) (ag _ _ e)
  have pl:P' lp:=(pp lp).2 (by simp)
  cases hc:(iZ q (cG q l s0 l.length 0 (([(⟨0,q.aj,q.ah⟩:Gate)])++r)).length ((cG q l s0 l.length 0 (([(⟨0,q.aj,q.ah⟩:Gate)])++r)).length - 1) 1 (eZ (cG q l s0 l.length 0 (([(⟨0,q.aj,q.ah⟩:Gate)])++r)).length ((cG q l s0 l.length 0 (([(⟨0,q.aj,q.ah⟩:Gate)])++r)).length - 1) 1 (cG q l s0 l.length 0 (([(⟨0,q.aj,q.ah⟩:Gate)])++r)))) with
  | none=>
    obtain ⟨jH,h2,ev,y2,n2,a2⟩:=TZ (d:=d) (b:=b) (bq:=bq) (bm:=bm) (br:=br) (bl:=bl) (by_:=by_) (lp:=lp) x c1.1 (aA.mono ag1 hq) (hl.has ag1) (hr.has ag1) F2 hrl hg (c1.2.2 _ _ o! gq) (c1.2.2 _ _ o! gm) (c1.2.2 _ _ o! gr) (c1.2.2 _ _ o! gl) (c1.2.2 _ _ o! gy) dd hc
    have e:=GQ (d:=d+8) (args:=[.int .u64 s0]) (jump:=none) gp rfl ((Ob x b bq bm br bl by_ (.int .u64 s0))▸Oa x b bq bm br bl by_ lp s0 hh) gp ev (.inl ⟨rfl,rfl⟩) (a2 _ _ c1.2.1)
    have c3:=jR (o:= .loop .ready none (mi x b bq bm br bl by_) [16] jF fP dn) y2 (a2 _ _ c1.2.1)
    have K:∀k w,k≠lp→hh.get k=some w→(h2.put lp (some (.loop .ready none (mi x b bq bm br bl by_) [16] jF fP dn))).get k=some w:=fun k w n e=>c3.2.2 _ _ n (a2 _ _ (c1.2.2 _ _ n e))
    refine ⟨_,P',e,c3.1,n2,⟨P0,?_,fun k w e=>K _ _ (fun e'=>by have:=QX _ _ e;omega) (ag _ _ e),Nat.le_trans gn n2,Nat.lt_of_lt_of_le gx n2,K _ _ o! gq,K _ _ o! gm,K _ _ o! gr,K _ _ o! gl,K _ _ o! gy,c3.2.1,nP,pp⟩,fun _=> .inl,fun k w n e=>K k w (fun e'=>n (e'▸pl)) e⟩
    rw[List.filterMap_append,List.filterMap_cons_none (show Oc q l r [AV.int .u64 s0]=none by show (dG q l r s0).map _=_;rw[dG,hc];rfl),List.filterMap_nil,List.append_nil]
    exact yl.stay i0 c3.1 n2 fun k w p e=>K k w (nP k p).2.2.2.2.2.2 e
  | some w=>
    have ht:dG q l r s0=some (ja q ((cG q l s0 l.length 0 (([(⟨0,q.aj,q.ah⟩:Gate)])++r)).length - 1) 0 w):=by rw[dG,hc];rfl
    have np:∀{k},(k=bq∨k=bm∨k=br∨k=bl∨k=by_∨k=lp)→¬P0 k:=fun {k} c p=>by have:=nP k p;omega
    obtain ⟨jH,h2,P2,ev,y2,n2,i2,p2,l2⟩:=Uc (d:=d) (b:=b) (bq:=bq) (bm:=bm) (br:=br) (bl:=bl) (by_:=by_) (lp:=lp) x c1.1 (aA.mono ag1 hq) (hl.has ag1) (hr.has ag1) F2 hrl hg (c1.2.2 _ _ o! gq) (c1.2.2 _ _ o! gm) (c1.2.2 _ _ o! gr) (c1.2.2 _ _ o! gl) (c1.2.2 _ _ o! gy) dd hc yl (Nat.lt_of_le_of_lt (List.length_filterMap_le _ _) hLL) (yl.stay i0 c1.1 (Nat.le_refl _) fun k w p e=>c1.2.2 _ _ (nP k p).2.2.2.2.2.2 e) (fun {hk p op} e=>jV ht e) (np (by simp)) (np (by simp)) (np (by simp)) (np (by simp)) (np (by simp))
    have e:=GQ (d:=d+8) (args:=[.int .u64 s0]) (jump:=none) gp rfl ((Ob x b bq bm br bl by_ (.int .u64 s0))▸Oa x b bq bm br bl by_ lp s0 hh) gp ev (.inl ⟨rfl,rfl⟩) (l2 _ _ (np (by simp)) c1.2.1)
    have c3:=jR (o:= .loop .ready none (mi x b bq bm br bl by_) [16] jF fP dn) y2 (l2 _ _ (np (by simp)) c1.2.1)
    have K:∀k w,k≠lp→¬P0 k→hh.get k=some w→(h2.put lp (some (.loop .ready none (mi x b bq bm br bl by_) [16] jF fP dn))).get k=some w:=fun k w n n' e=>c3.2.2 _ _ n (l2 _ _ n' (c1.2.2 _ _ n e))
    have T:∀{k w},hh.get k=some w→k<hh.nx:=fun e=>y _ _ e
    have t1:=T gq;have t2:=T gm;have t3:=T gr;have t4:=T gl;have t5:=T gy
    have nP2:∀k,P2 k→g.get k=none∧k≠bq∧k≠bm∧k≠br∧k≠bl∧k≠by_∧k≠lp:=fun k p=>by
     rcases p2 k p with h | h
     · exact nP k h
     · have h:hh.nx≤k:=h
       exact ⟨xL QX o!,by omega⟩
    refine ⟨_,fun k=>P2 k∨(∃w,g.get k=some w)∨k=bq∨k=bm∨k=br∨k=bl∨k=by_∨k=lp,e,c3.1,n2,⟨P2,?_,fun k w e=>K _ _ (fun e'=>by have:=QX _ _ e;omega) (fun p=>by have:=(nP k p).1;rw[e] at this;cases this) (ag _ _ e),Nat.le_trans gn n2,Nat.lt_of_lt_of_le gx n2,K _ _ o! (np (by simp)) gq,K _ _ o! (np (by simp)) gm,K _ _ o! (np (by simp)) gr,K _ _ o! (np (by simp)) gl,K _ _ o! (np (by simp)) gy,c3.2.1,nP2,fun _=>Iff.rfl⟩,fun k p=>?_,fun k w n e=>K k w (fun e'=>n (e'▸pl)) (fun p=>n ((pp k).2 (.inl p))) e⟩
    · rw[List.filterMap_append,List.filterMap_cons_some (show Oc q l r [AV.int .u64 s0]=some (s0,ja q ((cG q l s0 l.length 0 (([(⟨0,q.aj,q.ah⟩:Gate)])++r)).length - 1) 0 w) by show (dG q l r s0).map _=_;rw[ht];rfl),List.filterMap_nil]
      exact yl.stay i2 c3.1 (Nat.le_refl _) fun k w p e=>c3.2.2 _ _ (nP2 k p).2.2.2.2.2.2 e
    · rcases p with p | p
      · exact (p2 k p).imp (fun h=>(pp k).2 (.inl h)) id
      · exact .inl ((pp k).2 (.inr p))
def sq1:Code→Code
 | .seq a _=>a
 | c=>c
def sq2:Code→Code
 | .seq _ b=>b
 | c=>c
def ZO:Code:=sq1 oU
def ZP:Code:=sq1 (sq2 oU)
theorem PO:oU= .seq ZO (.seq ZP (.block 0 (.rangeFunc (.tmp 15) #[16] jF fP))):=by kernel_rfl
theorem Ev.Ue {call:bw} {i:Nat} {b:Code} {s s':St} (h:Ev env call b s .normal s'):Ev env call (.block i b) s .normal s':=by
 obtain ⟨n0,h3⟩:=h
 refine ⟨n0+1,fun n hn=>?_⟩
 obtain ⟨k,rfl⟩:∃k,n=k+1:=⟨n - 1,by omega⟩
 rw[Bi,h3 k o!]
 rfl
theorem Yg {d:Nat} {b bn bm:Nat} {n m:Int} {ok:List AV→Prop} {I:List (List AV)→(Nat→Prop)→au→Prop} (yl:Yl (cW (d+2)) b ok I) (back:∀{L L' P P' hh hk},I L P hh→I L' P' hk→Has hh hk→I L' P hh) (jV:∀s:Nat,(s:Int)<qk .u64 1 n→decide (j9 ((s:Nat):Int)=m)=true→ok [AV.int .u64 ((s:Nat):Int)]) (h0:0≤n) (hn:n≤8) {P:Nat→Prop} {hh:au} (aN:Tidy hh) (gn:hh.get bn=some (.cells [Zi n] 3 false)) (gm:hh.get bm=some (.cells [Zi m] 3 false)) (hi:I [] P hh) (X9:¬P bn) (X_:¬P bm):
 ∃hk P',cW (d+3) (.fn 70) [.cM b,.ptr bn 0,.ptr bm 0] hh= .ret (.tuple []) hk∧Tidy hk∧hh.nx≤hk.nx∧I (tF m (qk .u64 1 n).toNat 0) P' hk∧(∀j,P' j→P j∨hh.nx≤j)∧Left P hh hk:=by
 obtain ⟨hk,h',P',e,y,n1,i,p,lf,q⟩:=abG yl jV h0 hn aN gn gm hi X9 X_
 rcases q with rfl | ⟨rfl,A⟩
 · exact ⟨_,P',e,y,n1,i,p,lf⟩
 · exact ⟨_,P,e,aN,Nat.le_refl _,back hi i A,fun _=> .inl,Left.refl _ _⟩
theorem Uf {I:List (Int×List Gate)→(Nat→Prop)→au→Prop} (back:∀{L L' P P' hh hk},I L P hh→I L' P' hk→Has hh hk→I L' P hh) {g:au} {q:ay} {l:List az} {r:List Gate} {m:Int} {lv rv:AV} {b bq bm br bl by_ lp:Nat} {x:Nat→AV} {dn:Nat} {L L':List (List AV)} {P P':Nat→Prop} {hh hk:au} (a:ExI I g q l r m lv rv b bq bm br bl by_ lp x dn L P hh) (a':ExI I g q l r m lv rv b bq bm br bl by_ lp x dn L' P' hk) (A:Has hh hk):ExI I g q l r m lv rv b bq bm br bl by_ lp x dn L' P hh:=by
 obtain ⟨P0,i0,w⟩:=a
 obtain ⟨P1,i1,_⟩:=a'
 exact ⟨P0,back i0 i1 A,w⟩
def cn (q:ay) (l:List az) (r:List Gate) (m:Int):List (Int×List Gate):=(tF m (qk .u64 1 ((q.af.length:Nat):Int)).toNat 0).filterMap (Oc q l r)
theorem ZQ {d:Nat} {g h:au} {q:ay} {l:List az} {r:List Gate} {m:Int} {lv rv:AV} {b bq bm br bl:Nat} (QX:Tidy g) (hqg:aA.ok g q) (hlg:aZ g lv l) (hrg:aZ g rv r) (F2:l.length≤12) (hrl:r.length≤1) (hq8:q.af.length≤8) (XJ:∀k,k<l.length→0≤(l.g k).aD∧(l.g k).aD<(q.af.length:Int)) (dd:bq<bl∧bl<bm∧bm<br) (gb:g.nx≤bq) (bY:Tidy h) (ag:Has g h) (ngh:g.nx≤h.nx) (gq:h.get bq=some (.cells (aA.c q) 26 false)) (gm:h.get bm=some (.cells [Zi m] 3 false)) (gr:h.get br=some (.cells [rv] 69 false)) (gl:h.get bl=some (.cells [lv] 27 false))
 {ok:au→List AV→(Int×List Gate)→Prop} {I:List (Int×List Gate)→(Nat→Prop)→au→Prop} (yl:YlH (cW (d+8)) b ok I) (back:∀{L L' P P' hh hk},I L P hh→I L' P' hk→Has hh hk→I L' P hh) (jV:∀{s0:Int} {w:List Gate} {hk:au} {p:Nat} {op:Bool},dG q l r s0=some w→hk.get p=some (.cells (List.flatMap (aA.c (α:=Gate)) w) 66 false)→ok hk [.int .u64 s0,.slice p 0 (uY q l r s0) (uY q l r s0) op] (s0,w))
 {P:Nat→Prop} (hi:I [] P h) (nP:∀k,P k→g.get k=none∧k≠bq∧k≠bm∧k≠br∧k≠bl):
 ∃hk P',cW (d+11) (.fn 44) [.cM b,.ptr bq 0,.ptr bm 0,.ptr br 0,.ptr bl 0] h= .ret (.tuple []) hk∧Tidy hk∧h.nx≤hk.nx∧I (cn q l r m) P' hk∧(∀j,P' j→P j∨h.nx≤j)∧Left P h hk:=by
 have hq:=aA.mono ag hqg
 have T_q:=bY _ _ gq
 have T_m:=bY _ _ gm
 have T_r:=bY _ _ gr
 have T_l:=bY _ _ gl
 obtain ⟨h1,cA,cq,jf,aY,ct⟩:=iQ bY (a_.cells [(AV.cM b)] 86 false)
 have ev0:=pk (d+10) ZO ((AV.cM b)::(AV.ptr bq 0)::(AV.ptr bm 0)::(AV.ptr br 0)::(AV.ptr bl 0)::kX 45) h .normal h1 (NN cA (fun i=>(AV.ptr i 0))<|ZZ) (by kernel_rfl)
 have ln2:dJ (some (.slice 45)) (some q.aB)=some (AV.int .i64 ((q.af.length:Nat):Int)):=hq.2.len
 obtain ⟨bn4,bm5,h3,abr,gF,vP,fG,ZR,ZS,ajl,ajm⟩:=ahN (d:=d+8) (n:=((q.af.length:Nat):Int)) (m:=m) cq
 have ev1:=pk (d+10) ZP ((AV.cM b)::(AV.ptr bq 0)::(AV.ptr bm 0)::(AV.ptr br 0)::(AV.ptr bl 0)::(AV.ptr h.nx 0)::kX 44) h1 .normal h3 (CC<|MM (aM 24 6 q.aB (ct _ _ gq) (by kernel_rfl))<|VV ln2<|MM (aM 3 0 (AV.int .i64 m) (ct _ _ gm) (by kernel_rfl))<|EE abr<|ZZ) (by kernel_rfl)
 have T4:=gF _ _ ZR
 have T5:=gF _ _ ZS
 obtain ⟨h4,n4⟩:=kF (h:=h3) .pz
 have y4:=fi gF n4
 have x4:=kE n4
 let TS:List AV:=((AV.cM b)::(AV.ptr bq 0)::(AV.ptr bm 0)::(AV.ptr br 0)::(AV.ptr bl 0)::(AV.ptr h.nx 0)::AV.undef::AV.undef::AV.undef::AV.undef::AV.undef::(AV.ptr bq 6)::q.aB::(AV.int .i64 ((q.af.length:Nat):Int))::(AV.int .i64 m)::(AV.func 70 [] [(AV.ptr bn4 0),(AV.ptr bm5 0)])::kX 34)
 have eTS:TS=mi (fun k=>TS.getD k .undef) b bq bm br bl h.nx:=by kernel_rfl
 obtain ⟨h5,n5⟩:=kF (h:=h4) (.loop .ready none TS (#[16]:Array Tmp).toList jF fP h3.nx)
 have y5:=fi y4 n5
 have x5:=kE n5
 have K5:∀k w,h3.get k=some w→h5.get k=some w:=fun k w e=>eW y4 n5 (eW gF n4 e)
 have K1:∀k w,h.get k=some w→h5.get k=some w:=fun k w e=>K5 k w (fG _ _ (ct _ _ e))
 have g_y:h5.get h.nx=some (.cells [.cM b] 86 false):=K5 _ _ (fG _ _ aY)
 have aeR:∀k,P k→k<h.nx:=yl.aX hi
 have hi5:ExI I g q l r m lv rv b bq bm br bl h.nx h4.nx (fun k=>TS.getD k .undef) h3.nx [] (fun k=>P k∨(∃w,g.get k=some w)∨k=bq∨k=bm∨k=br∨k=bl∨k=h.nx∨k=h4.nx) h5:=
  ⟨P,yl.stay hi y5 o! fun k w _ e=>K1 k w e,fun k w e=>K1 k w (ag _ _ e),by omega,by omega,K1 _ _ gq,K1 _ _ gm,K1 _ _ gr,K1 _ _ gl,g_y,by rw[←eTS];exact iJ n5,fun k p=>⟨(nP k p).1,by have:=nP k p;have:=aeR k p;omega⟩,fun _=>Iff.rfl⟩
 have ylx:=abW (d:=d) (g:=g) (q:=q) (l:=l) (r:=r) (m:=m) (lv:=lv) (rv:=rv) (b:=b) (bq:=bq) (bm:=bm) (br:=br) (bl:=bl) (by_:=h.nx) (lp:=h4.nx) (fun k=>TS.getD k .undef) h3.nx QX hqg hlg hrg F2 hrl XJ o! gb o! yl jV
 have nb:∀j,h1.nx≤j→j<h4.nx→¬(P j∨(∃w,g.get j=some w)∨j=bq∨j=bm∨j=br∨j=bl∨j=h.nx∨j=h4.nx):=by
  rintro j c1 c2 (p | ⟨w,p⟩ | p)
  · have:=aeR j p;omega
  · have:=QX _ _ p;omega
  · omega
 obtain ⟨h6,P6,e6,y6,x6,i6,p6,l6⟩:=Yg (d:=d+7) (n:=((q.af.length:Nat):Int)) (m:=m) ylx (fun a b c=>Uf (I:=I) (fun a b c=>back a b c) a b c) (fun s _ _=>⟨(s:Int),rfl⟩) o! o! y5 (K5 _ _ ZR) (K5 _ _ ZS) hi5 (nb _ o! o!) (nb _ o! o!)
 obtain ⟨P0,i0,ag6,gn6,gx6,gq6,gm6,gr6,gl6,gy6,gp6,nP6,pp6⟩:=i6
 have er:=Cm (E:=env) (call:=cW (d+10)) (ts:=TS) (ds:=[]) (f:= .tmp 15) (ps:= #[16]) (aS:=jF) (bd:=fP) (e:= .normal) rfl n4 n5 e6 gp6 (by intro c;cases c) rfl
 have ev:=PO▸Ev.seq (Ap (L':=(AV.cM b)::(AV.ptr bq 0)::(AV.ptr bm 0)::(AV.ptr br 0)::(AV.ptr bl 0)::(AV.ptr h.nx 0)::kX 44) (by kernel_rfl) ev0) (Ev.seq (Ap (L':=TS) (by kernel_rfl) ev1) (Ev.Ue er))
 have l6':∀k w,h3.get k=some w→h1.nx≤k→h6.get k=some w:=fun k w e c=>l6 _ _ (nb k c (by have:=gF _ _ e;omega)) (K5 _ _ e)
 have gd:h6.get h3.nx=some .pz:=l6 _ _ (nb _ o! o!) (eW y4 n5 (iJ n4))
 have c7:=jR (o:= .loop .exhausted none (mi (fun k=>TS.getD k .undef) b bq bm br bl h.nx) [16] jF fP h3.nx) y6 gp6
 have fn:=GR (args:=[.cM b,.ptr bq 0,.ptr bm 0,.ptr br 0,.ptr bl 0]) (L:=[h3.nx]) (v:= .tuple []) Try.func44 aeL (by kernel_rfl) (.inl rfl) ev (by simp) (fun k hk=>by rw[List.mem_singleton.1 hk];exact c7.2.2 _ _ o! gd) rfl
 obtain ⟨hk,ek,cs⟩:=kG (M0:=M0) rfl fn
 have KF:∀k w,k≠h4.nx→k≠h3.nx→h6.get k=some w→(shut [h3.nx] (h6.put h4.nx (some (.loop .exhausted none (mi (fun k=>TS.getD k .undef) b bq bm br bl h.nx) [16] jF fP h3.nx)))).get k=some w:=fun k w c1 c2 e=>by
  rw[kl (by simpa using c2)];exact c7.2.2 _ _ c1 e
 have yF:Tidy (shut [h3.nx] (h6.put h4.nx (some (.loop .exhausted none (mi (fun k=>TS.getD k .undef) b bq bm br bl h.nx) [16] jF fP h3.nx)))):=fun k w gw=>by
  rw[nI]
  by_cases c:k=h3.nx
  · subst c
    rw[shut,shut,au.bS] at gw;cases gw
  · rw[kl (by simpa using c)] at gw;exact c7.1 _ _ gw
 have nF:h.nx≤(shut [h3.nx] (h6.put h4.nx (some (.loop .exhausted none (mi (fun k=>TS.getD k .undef) b bq bm br bl h.nx) [16] jF fP h3.nx)))).nx:=by
  rw[nI];show h.nx≤h6.nx;omega
 have nd:∀k,P0 k→k≠h3.nx:=fun k p c=>by
  subst c
  rcases p6 _ ((pp6 _).2 (.inl p)) with c | c
  · exact nb _ o! o! c
  · omega
 have iF:=yl.stay i0 yF (by rw[nI];exact Nat.le_refl _) fun k w p e=>KF k w (nP6 k p).2.2.2.2.2.2 (nd k p) e
 have pF:∀j,P0 j→P j∨h.nx≤j:=fun j p=>by
  have np:=nP6 j p
  rcases p6 j ((pp6 j).2 (.inl p)) with (c | ⟨w,c⟩ | c) | c
  · exact .inl c
  · have:=np.1;rw[c] at this;cases this
  · omega
  · exact .inr o!
 have lF:Left P h (shut [h3.nx] (h6.put h4.nx (some (.loop .exhausted none (mi (fun k=>TS.getD k .undef) b bq bm br bl h.nx) [16] jF fP h3.nx)))):=fun k w n e=>by
  have T:=bY _ _ e
  refine KF k w o! o! ?_
  by_cases c0:∃w',g.get k=some w'
  · obtain ⟨w',c0⟩:=c0
    have:=ag _ _ c0
    rw[e] at this
    rw[ag6 _ _ c0,this]
  · by_cases c1:k=bq
    · subst c1;rw[gq6,←gq,e]
    · by_cases c2:k=bm
      · subst c2;rw[gm6,←gm,e]
      · by_cases c3:k=br
        · subst c3;rw[gr6,←gr,e]
        · by_cases c4:k=bl
          · subst c4;rw[gl6,←gl,e]
          · refine l6 _ _ ?_ (K1 _ _ e)
            rintro (p | p | p)
            · exact n p
            · exact c0 p
            · omega
 rcases cs with rfl | ⟨rfl,A⟩
 · exact ⟨_,P0,ek,yF,nF,iF,pF,lF⟩
 · exact ⟨_,P,ek,bY,Nat.le_refl _,back hi iF A,fun _=> .inl,Left.refl _ _⟩
def qu:Code:=(Try.f76.body).getD .skip
theorem uZ:Try.f76.body=some qu:=by kernel_rfl
def A9:Code:=(cC qu).getD 0 .skip
def eM (s:List Gate) (P:Gate→Bool):Nat→Nat→Option (Int)
 | 0,_=>none
 | d_+1,i0=>(bif (P (s.g i0)) then some ((i0:Nat):Int) else eM s P d_ (i0+1))
theorem mj {d:Nat} {h:au} (sV:AV) (g:FuncId) (cap:List AV) (s:List Gate) (P:Gate→Bool) (cD:aZ h sV s) (hP:∀y∈s,∀hh,Tidy hh→Has h hh→cW d (.fn g) (.agg (aA.c y)::cap) hh= .ret (.bool (P y)) hh):∀(k_ i_:Nat) (_:i_+k_=s.length) (x:Nat→AV) (hh:au) (aN:Tidy hh) (bj:Has h hh),aW (cW (d)) A9 ⟨(sV::(AV.func g [] cap)::rx x 2 5 ((Zn s.length)::(Zn i_)::rx x 9 10 [])),hh,[],.no⟩ (.exit 0) hh (fun y=>(sV::(AV.func g [] cap)::rx y 2 5 ((Zn s.length)::rx y 8 11 []))) (fun r y=>(sV::(AV.func g [] cap)::(y 2)::(y 3)::(Zi r)::(y 5)::(y 6)::(Zn s.length)::rx y 8 11 [])) (eM s P k_ i_)
 | 0,i0,kY,x,hh,aN,bj=>by
   have jA:=cD.small
   have q1:(decide (((i0:Nat):Int)<((s.length:Nat):Int)))=false:=d!
   exact aW.out rfl (pk (d) _ _ hh _ hh (VV (bZ 3 false false .i64 ((i0:Nat):Int) ((s.length:Nat):Int))<|BB q1<|ZZ) k!) (Grow.refl aN) k!
 | d_+1,i0,kY,x,hh,aN,bj=>by
   have jA:=cD.small
   have q1:(decide (((i0:Nat):Int)<((s.length:Nat):Int)))=true:=d!
   obtain ⟨p3,q4,lE⟩:=(cD.has bj).elem (i:=i0) o!
   have xp:dr env (some (.slice 66)) (some sV) (some (Zn i0))=some (AV.ptr p3 q4):=lE
   have AZ:bG env hh 66 (AV.ptr p3 q4)=some (AV.agg [(Zi (s.g i0).time),(Zi (s.g i0).ax),(Zi (s.g i0).ar)]):=(cD.has bj).load o! lE
   have k6:=hP (s.g i0) (lB o!) hh aN bj
   rcases Bool.eq_false_or_eq_true (P (s.g i0)) with f1 | f1
   · exact aW.ret ((i0:Nat):Int) (by simp only[eM,f1,ao,ai]) (pk (d) _ _ hh _ hh (VV (bZ 3 false false .i64 ((i0:Nat):Int) ((s.length:Nat):Int))<|BB q1<|CN 5<|VV xp<|MM AZ<|EE k6<|BB f1<|CN 2<|ZZ) k!) (Grow.refl aN) k!
   · have u8:=fj 3 false true i0 1 o!
     exact aW.round (by simp only[eM,f1,ao,ai]) (pk (d) _ _ hh _ hh (VV (bZ 3 false false .i64 ((i0:Nat):Int) ((s.length:Nat):Int))<|BB q1<|CN 5<|VV xp<|MM AZ<|EE k6<|BV f1 u8<|CC<|ZZ) k!) (Grow.refl aN) _ k! (fun x=>mj sV g cap s P cD hP d_ (i0+1) o! x hh aN bj)
def bM (s:List Gate) (P:Gate→Bool):Int:=(match (eM s P s.length 0) with | none=>(-1) | some PC=>PC)
theorem D2 {d:Nat} {h:au} {sV:AV} {g:FuncId} {cap:List AV} (s:List Gate) (P:Gate→Bool) (Cp:aZ h sV s) (hP:∀y∈s,∀hh,Tidy hh→Has h hh→cW d (.fn g) (.agg (aA.c y)::cap) hh= .ret (.bool (P y)) hh) (bY:Tidy h):cW (d+1) (.fn 76) [sV,(AV.func g [] cap)] h= .ret (Zi (bM s P)) h:=by
 have NZ:=Cp.small
 have nY:dJ (some (.slice 66)) (some sV)=some (Zn s.length):=Cp.len
 cases lI:eM s P s.length 0 with
 | none=>
   obtain ⟨ZD,h3,jB,oO⟩:=aW.n lI (mj (d:=d) (h:=h) sV g cap s P Cp hP s.length 0 o! (fun k_=>((sV::(AV.func g [] cap)::AV.undef::AV.undef::(Zi 0)::AV.undef::sV::(Zn s.length)::(Zi 0)::kX 10):List AV).getD k_ AV.undef) h bY (Has.refl _))
   have gF:=oO.y
   have vP:h.nx≤h3.nx:=oO.n
   have ik:Has h h3:=oO.a
   have e:bM s P=(-1):=by simp only[bM,lI,ao,ai]
   rw[e]
   exact aC rfl (bx Try.func76 uZ rfl (.inr rfl) (pk (d) _ _ h _ h3 (CN 2<|VV nY<|CC<|LL jB<|CC<|ZZ) k!) k!) ik rfl
 | some PC=>
   obtain ⟨ZD,h3,jB,oO⟩:=aW.r lI (mj (d:=d) (h:=h) sV g cap s P Cp hP s.length 0 o! (fun k_=>((sV::(AV.func g [] cap)::AV.undef::AV.undef::(Zi 0)::AV.undef::sV::(Zn s.length)::(Zi 0)::kX 10):List AV).getD k_ AV.undef) h bY (Has.refl _))
   have gF:=oO.y
   have vP:h.nx≤h3.nx:=oO.n
   have ik:Has h h3:=oO.a
   have e:bM s P=PC:=by simp only[bM,lI,ao,ai]
   rw[e]
   exact aC rfl (bx Try.func76 uZ rfl (.inr rfl) (pk (d) _ _ h _ h3 (CN 2<|VV nY<|CC<|LL jB<|ZZ) k!) k!) ik rfl
def My:Code:=(Try.f77.body).getD .skip
theorem Yh:Try.f77.body=some My:=by kernel_rfl
def fK (o:Gate) (t:Int):Bool:=(decide (o.time=t))
theorem Yi {d:Nat} {h:au} (o:Gate) (t:Int) (tB:Nat) (h_o:aA.ok h o) (g_t:h.get tB=some (a_.cells [(Zi t)] 3 false)) (bY:Tidy h):cW (d+1) (.fn 77) [(AV.agg [(Zi o.time),(Zi o.ax),(Zi o.ar)]),(Pt tB)] h= .ret (AV.bool (fK o t)) h:=by
 obtain ⟨h1,cA,cq,jf,aY,ct⟩:=iQ bY (a_.cells [(Zi o.time),(Zi o.ax),(Zi o.ar)] 66 false)
 have bI:Has h h1:=ct
 have e:fK o t=(decide (o.time=t)):=by simp only[fK,ao,ai]
 rw[e]
 exact aC rfl (bx Try.func77 Yh rfl (.inr rfl) (pk (d) _ _ h _ h1 (NN cA (fun i=>(Pt i))<|CN 2<|MM (aM 3 0 (Zi o.time) aY k!)<|MM (aM 3 0 (Zi t) (ct _ _ g_t) k!)<|VV (o_ 3 false false .i64 o.time t)<|CC<|ZZ) k!) k!) bI rfl
def PQ:Code:=(Try.f49.body).getD .skip
theorem abX:Try.f49.body=some PQ:=by kernel_rfl
def j_ (c:List Gate) (t:Int):Span:=(⟨(c.g (bM c (fun y=>fK y t)).toNat).ax,(c.g (bM c (fun y=>fK y t)).toNat).ar⟩:Span)
theorem abY {d:Nat} {h:au} {cV:AV} (c:List Gate) (t:Int) (ZC:aZ h cV c) (mM:0≤bM c (fun y=>fK y t)) (Ju:bM c (fun y=>fK y t)<(c.length:Int)) (bY:Tidy h):cW (d+3) (.fn 49) [cV,(Zi t)] h= .ret (AV.agg [(Zi (j_ c t).aX),(Zi (j_ c t).aG)]) h:=by
 have ajn:=ZC.small
 obtain ⟨h1,cA,cq,jf,aY,ct⟩:=iQ bY (a_.cells [(Zi t)] 3 false)
 have bI:Has h h1:=ct
 obtain ⟨h2,nv,gG,CP,fW,fJ⟩:=iQ cq (a_.cells [(Zi 0),(Zi 0)] 23 false)
 have fF:Has h h2:=bI.trans fJ
 have k3:=D2 (d:=d+1) c (fun y=>fK y t) (ZC.has fF) (fun y hy hh yy aa=>Yi (d:=d) y t h.nx (aA.mono aa ((ZC.has fF).GU y hy)) (aa _ _ (fJ _ _ aY)) yy) gG
 obtain ⟨p5,q6,Ug⟩:=ZC.elem (i:=(bM c (fun y=>fK y t)).toNat) o!
 have QR:dr env (some (.slice 66)) (some cV) (some (Zi (bM c (fun y=>fK y t))))=some (AV.ptr p5 q6):=by rw[show ((bM c (fun y=>fK y t)):Int)=(((bM c (fun y=>fK y t)).toNat:Nat):Int) by omega];exact Ug
 have ld7:bG env h2 23 (AV.ptr p5 (q6+1))=some (AV.agg [(Zi (c.g (bM c (fun y=>fK y t)).toNat).ax),(Zi (c.g (bM c (fun y=>fK y t)).toNat).ar)]):=(ZC.has fF).ad0 (t:=23) (j:=1) (n:=2) o! Ug k! k! (by decide) rfl
 obtain ⟨h8,ahW,J1,akg,ahX,aeT⟩:=xg (t:=23) (n:=2) (i:=h1.nx) (L:=[(Zi (c.g (bM c (fun y=>fK y t)).toNat).ax),(Zi (c.g (bM c (fun y=>fK y t)).toNat).ar)]) gG fW k! rfl rfl (by simp only[AV.cells,List.all_cons,List.all_nil,Bool.and_true,Bool.and_self,fB,dZ,fC,fD,dh,iT,iU,iV,iW,iX,fE])
 have Dd:Has h h8:=Has.cj fF aeT bY o!
 have e:j_ c t=(⟨(c.g (bM c (fun y=>fK y t)).toNat).ax,(c.g (bM c (fun y=>fK y t)).toNat).ar⟩:Span):=by simp only[j_,ao,ai]
 rw[e]
 exact aC rfl (mL (a:=4) (t:=23) (i:=h1.nx) Try.func49 abX rfl (.inr rfl) (pk (d+2) _ _ h _ h8 (NN cA (fun i=>(Pt i))<|NN nv (fun i=>(Pt i))<|CN 3<|EE k3<|VV QR<|CC<|MM ld7<|SS ahW<|ZZ) k!) k! (qe ahX k!)) Dd rfl
end
end Go.Proofs.aH
