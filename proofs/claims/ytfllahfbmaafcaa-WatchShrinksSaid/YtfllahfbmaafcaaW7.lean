import Derived.Test.YtfllahfbmaafcaaW0
import Derived.Test.YtfllahfbmaafcaaW6
import Derived.Test.YtfllahfbmaafcaaW1
import Derived.Test.YtfllahfbmaafcaaW3
import Derived.Test.YtfllahfbmaafcaaA8
import Derived.Test.YtfllahfbmaafcaaW2
import Derived.Test.YtfllahfbmaafcaaW4
namespace Go.Proofs.aK
open Go.Proofs Ab
noncomputable section
set_option maxRecDepth 100000
set_option maxHeartbeats 4000000
set_option linter.unusedVariables false
set_option linter.unusedSimpArgs false
def Gb:Code:=(Try.f71.body).getD .skip
theorem PJ:Try.f71.body=some Gb:=by kernel_rfl
def iU (x_:Int):Int:=(ra x_)
theorem Gc {d:Nat} {h:au} (x_:Int) (cj:Tidy h):dw (d+2) (.fn 71) [(AV.int .u64 x_)] h= .ret (Zi (iU x_)) h:=by
 have k1:=Il (d:=d) x_ cj
 have e:iU x_=(ra x_):=by simp only[iU,ax,ar]
 rw[e]
 exact aF rfl (bu Try.func71 PJ rfl (.inr rfl) (pk (d+1) _ _ h _ h (CC<|FF<|CC<|EE k1<|CC<|ZZ) k!) k!) (Has.refl _) rfl
structure Yl (call:aW) (b:Nat) (ok:List AV→Prop) (I:List (List AV)→(Nat→Prop)→au→Prop):Prop where
 aM:∀{L P hh},I L P hh→∀k,P k→k<hh.nx
 stay:∀{L P hh hk},I L P hh→Tidy hk→hh.nx≤hk.nx→(∀k w,P k→hh.get k=some w→hk.get k=some w)→I L P hk
 next:∀{L a P hh},L.length<1000→ok a→I L P hh→Tidy hh→∃hk P',call (.sL b) a hh= .ret (.bool true) hk∧Tidy hk∧hh.nx≤hk.nx∧I (L++[a]) P' hk∧(∀k,P' k→P k∨hh.nx≤k)∧∀k w,¬P k→hh.get k=some w→hk.get k=some w
def Left (P:Nat→Prop) (h hk:au):Prop:=∀k w,¬P k→h.get k=some w→hk.get k=some w
theorem Left.refl (P:Nat→Prop) (h:au):Left P h h:=fun _ _ _ q=>q
def v8:Code:=(Try.f70.body).getD .skip
theorem XH:Try.f70.body=some v8:=by kernel_rfl
def Ae:Code:=(cX v8).getD 0 .skip
theorem PK {n:Int} (h0:0≤n) (h:n≤8):0≤oq .u64 1 n∧oq .u64 1 n≤1000:=by
 obtain ⟨k,rfl⟩:∃k:Nat,n=k:=⟨n.toNat,by omega⟩
 have:∀k:Nat,k<9→0≤oq .u64 1 (k:Nat)∧oq .u64 1 (k:Nat)≤1000:=by decide+kernel
 exact this k o!
def rb (m:Int):Nat→Nat→List (List AV)
 | 0,_=> []
 | k+1,s=>bif decide (iU ((s:Nat):Int)=m) then [AV.int .u64 ((s:Nat):Int)]::rb m k (s+1) else rb m k (s+1)
theorem v_ {d:Nat} {b bn bm:Nat} {n m N:Int} {ok:List AV→Prop} {I:List (List AV)→(Nat→Prop)→au→Prop} (yl:Yl (dw (d+2)) b ok I) (iW:∀s:Nat,(s:Int)<N→decide (iU ((s:Nat):Int)=m)=true→ok [AV.int .u64 ((s:Nat):Int)]) (hN:N≤1000):∀(k s0:Nat) (L:List (List AV)) (P:Nat→Prop) (x:Nat→AV) (hh:au) (a_:Tidy hh) (gn:hh.get bn=some (.cells [Zi n] 3 false)) (gm:hh.get bm=some (.cells [Zi m] 3 false)) (hi:I L P hh) (TV:¬P bn) (TW:¬P bm),L.length+k≤1000→(s0:Int)+k=N→
 ey (σ:=Unit) (ζ:=Unit) (dw (d+2)) Ae ⟨((AV.cr b)::(Pt bn)::(Pt bm)::rx x 3 3 ((AV.int .u64 N)::(AV.int .u64 ((s0:Nat):Int))::rx x 8 13 [])),hh,[],.no⟩ (.exit 0) hh (fun _ _ y=>rx y 0 21 []) (fun _ _ hk=>∃P',I (L++rb m k s0) P' hk∧(∀j,P' j→P j∨hh.nx≤j)∧Left P hh hk) ()
 | 0,s0,L,P,x,hh,a_,gn,gm,hi,TV,TW,hLk,rR=>by
   have q1:(decide (((s0:Nat):Int)<N))=false:=d!
   exact ey.out () () rfl (pk (d+2) _ _ hh _ hh (VV (cS 68 false false .u64 ((s0:Nat):Int) N)<|BB q1<|ZZ) k!) a_ (Nat.le_refl _) ⟨P,by rw[rb,List.append_nil];exact hi,fun _ h=> .inl h,Left.refl _ _⟩ k!
 | k+1,s0,L,P,x,hh,a_,gn,gm,hi,TV,TW,hLk,rR=>by
   have T1:=a_ _ _ gn
   have T2:=a_ _ _ gm
   rcases Bool.eq_false_or_eq_true (decide ((iU ((s0:Nat):Int))=m)) with f | f
   · skip
     have q1:(decide (((s0:Nat):Int)<N))=true:=d!
     have k2:=Gc (d:=d) ((s0:Nat):Int) a_
     have q3:(decide ((iU ((s0:Nat):Int))=m))=true:=f
     obtain ⟨h4,adz,adA,A4,aaN,adB,TX,PL⟩:=yl.next (L:=L) (P:=P) o! (iW s0 o! f) hi a_
     have u5:bU env .add 68 false true (some (AV.int .u64 ((s0:Nat):Int))) (some (AV.int .u64 1))=some (AV.int .u64 ((s0+1:Nat):Int)):=wY (a:=s0) (b:=1) o!
     have ev:=pk (d+2) Ae ((AV.cr b)::(Pt bn)::(Pt bm)::rx x 3 3 ((AV.int .u64 N)::(AV.int .u64 ((s0:Nat):Int))::rx x 8 13 [])) hh .normal h4 (VV (cS 68 false false .u64 ((s0:Nat):Int) N)<|BB q1<|CN 3<|MM (aL 3 0 (Zi m) gm k!)<|EE k2<|VV (dZ 3 false false .i64 (iU ((s0:Nat):Int)) m)<|CC<|BC q3<|BC q3<|BB q3<|AA (.e (.bool true) h4)<|HH adA<|BC q3<|VV (jG false false q3)<|HH (aL 3 0 (Zi m) gm k!)<|HH (show AV.same 20 (Zi m) (Zi m)=true from aN 19 _ _)<|HH (aL 3 0 (Zi m) gm k!)<|HH (show AV.same 20 (Zi m) (Zi m)=true from aN 19 _ _)<|FF<|VV u5<|CC<|ZZ) k!
     refine ey.round rfl ev o! _ k! (fun x=>ey.Pa (v_ yl iW hN k (s0+1) (L++[[AV.int .u64 ((s0:Nat):Int)]]) adz x h4 A4 (PL _ _ TV gn) (PL _ _ TW gm) adB (fun h=>(TX _ h).elim TV o!) (fun h=>(TX _ h).elim TW o!) (by rw[List.length_append,List.length_singleton];omega) o!) fun _ hk hn q=>?_)
     obtain ⟨P',a1,a2,a3⟩:=q
     refine ⟨P',?_,fun j hj=>?_,fun j w hj gw=>a3 _ _ (fun h=>(TX _ h).elim hj (by have:=a_ _ _ gw;omega)) (PL _ _ hj gw)⟩
     · rw[rb,f,ax]
       rw[List.append_assoc] at a1;exact a1
     · rcases a2 j hj with h | h
       · exact TX j h
       · exact .inr o!
   · skip
     have q1:(decide (((s0:Nat):Int)<N))=true:=d!
     have k2:=Gc (d:=d) ((s0:Nat):Int) a_
     have q3:(decide ((iU ((s0:Nat):Int))=m))=false:=f
     have u4:bU env .add 68 false true (some (AV.int .u64 ((s0:Nat):Int))) (some (AV.int .u64 1))=some (AV.int .u64 ((s0+1:Nat):Int)):=wY (a:=s0) (b:=1) o!
     have ev:=pk (d+2) Ae ((AV.cr b)::(Pt bn)::(Pt bm)::rx x 3 3 ((AV.int .u64 N)::(AV.int .u64 ((s0:Nat):Int))::rx x 8 13 [])) hh .normal hh (VV (cS 68 false false .u64 ((s0:Nat):Int) N)<|BB q1<|CN 3<|MM (aL 3 0 (Zi m) gm k!)<|EE k2<|VV (dZ 3 false false .i64 (iU ((s0:Nat):Int)) m)<|CC<|BB q3<|BB q3<|BB q3<|BV q3 (pH false q3)<|HH (aL 3 0 (Zi m) gm k!)<|HH (show AV.same 20 (Zi m) (Zi m)=true from aN 19 _ _)<|HH (aL 3 0 (Zi m) gm k!)<|HH (show AV.same 20 (Zi m) (Zi m)=true from aN 19 _ _)<|FF<|VV u4<|CC<|ZZ) k!
     refine ey.round rfl ev o! _ k! (fun x=>ey.Pa (v_ yl iW hN k (s0+1) L P x hh a_ gn gm hi TV TW o! o!) fun _ hk hn q=>?_)
     obtain ⟨P',a1,a2,a3⟩:=q
     exact ⟨P',by rw[rb,f,ar];exact a1,a2,a3⟩
theorem XI {d:Nat} {b bn bm:Nat} {n m:Int} {ok:List AV→Prop} {I:List (List AV)→(Nat→Prop)→au→Prop} (yl:Yl (dw (d+2)) b ok I) (iW:∀s:Nat,(s:Int)<oq .u64 1 n→decide (iU ((s:Nat):Int)=m)=true→ok [AV.int .u64 ((s:Nat):Int)]) (h0:0≤n) (hn:n≤8) {P:Nat→Prop} {hh:au} (a_:Tidy hh) (gn:hh.get bn=some (.cells [Zi n] 3 false)) (gm:hh.get bm=some (.cells [Zi m] 3 false)) (hi:I [] P hh) (TV:¬P bn) (TW:¬P bm):
 ∃hk h' P',dw (d+3) (.fn 70) [.cr b,.ptr bn 0,.ptr bm 0] hh= .ret (.tuple []) hk∧Tidy h'∧hh.nx≤h'.nx∧I (rb m (oq .u64 1 n).toNat 0) P' h'∧(∀j,P' j→P j∨hh.nx≤j)∧Left P hh h'∧(hk=h'∨(hk=hh∧Has hh h')):=by
 have u1:bU env .shl 68 true false (some (AV.int .u64 1)) (some (Zi n))=some (AV.int .u64 (oq .u64 1 n)):=Pb 68 true false .u64 .i64 o!
 obtain ⟨_,TN,h2,vY,iH,Ih,adC,adD,adE,aaR⟩:=v_ (d:=d) (N:=(oq .u64 1 n)) yl iW (PK h0 hn).2 (oq .u64 1 n).toNat 0 [] P (fun k_=>(((AV.cr b)::(Pt bn)::(Pt bm)::AV.undef::AV.undef::(Zi n)::(AV.int .u64 (oq .u64 1 n))::(AV.int .u64 0)::ka 13):List AV).getD k_ AV.undef) hh a_ gn gm hi TV TW (by have:=(PK h0 hn).2;rw[List.length_nil];omega) (by have:=(PK h0 hn).1;omega)
 have ev:=pk (d+2) v8 ((AV.cr b)::(Pt bn)::(Pt bm)::ka 18) hh .normal h2 (MM (aL 3 0 (Zi n) gn k!)<|VV u1<|CC<|LL vY<|ZZ) k!
 obtain ⟨hk,e,q⟩:=jn rfl (bu (v:= .tuple []) Try.func70 XH k! (.inl rfl) ev k!)
 exact ⟨hk,h2,adC,e,iH,Ih,adD,adE,aaR,q⟩
def TZ:Code:=(Try.f45.body).getD .skip
theorem adF:Try.f45.body=some TZ:=by kernel_rfl
theorem adG {d:Nat} {n m:Int} {h:au} (cj:Tidy h):
 ∃bn bm hk,dw (d+2) (.fn 45) [Zi n,Zi m] h= .ret (.func 70 [] [Pt bn,Pt bm]) hk∧Tidy hk∧h.nx≤hk.nx∧Has h hk∧hk.get bn=some (.cells [Zi n] 3 false)∧hk.get bm=some (.cells [Zi m] 3 false)∧h.nx≤bn∧h.nx≤bm:=by
 obtain ⟨h1,b9,cL,kt,aO,cz⟩:=jS cj (aR.cells [(Zi n)] 3 false)
 obtain ⟨h2,nH,iH,Du,fN,gv⟩:=jS cL (aR.cells [(Zi m)] 3 false)
 exact ⟨_,_,_,om rfl (bu Try.func45 adF rfl (.inr rfl) (pk (d+1) _ _ h _ h2 (NN b9 (fun i=>(Pt i))<|NN nH (fun i=>(Pt i))<|CN 3<|ZZ) k!) k!) (fun q=>by cases q.2),iH,by omega,(cz.trans gv),gv _ _ aO,fN,by omega,by omega⟩
def Im:Code:=(Try.f48.body).getD .skip
theorem T6:Try.f48.body=some Im:=by kernel_rfl
def Af (s:Int) (aC:Int):Bool:=(decide ((ae .u64 (ak .u64 s aC) 1)=1))
theorem T7 {d:Nat} {h:au} (s:Int) (aC:Int) (vb:0≤aC) (cj:Tidy h):dw (d+1) (.fn 48) [(AV.int .u64 s),(Zi aC)] h= .ret (AV.bool (Af s aC)) h:=by
 have u1:bU env .shr 68 false false (some (AV.int .u64 s)) (some (Zi aC))=some (AV.int .u64 (ak .u64 s aC)):=mB 68 false false .u64 .i64 o!
 have u2:bU env .and 68 false true (some (AV.int .u64 (ak .u64 s aC))) (some (AV.int .u64 1))=some (AV.int .u64 (ae .u64 (ak .u64 s aC) 1)):=mA 68 false true .u64 (ak .u64 s aC) 1
 have e:Af s aC=(decide ((ae .u64 (ak .u64 s aC) 1)=1)):=by simp only[Af,ax,ar]
 rw[e]
 exact aF rfl (bu Try.func48 T6 rfl (.inr rfl) (pk (d) _ _ h _ h (CN 3<|VV u1<|VV u2<|VV (dZ 68 false true .u64 (ae .u64 (ak .u64 s aC) 1) 1)<|CC<|ZZ) k!) k!) (Has.refl _) rfl
def xM:Code:=(Try.f58.body).getD .skip
theorem DE:Try.f58.body=some xM:=by kernel_rfl
def aX (time:Int):Gate:=(⟨time,(-9223372036854775808),9223372036854775807⟩:Gate)
theorem vc {d:Nat} {h:au} (time:Int) (cj:Tidy h):dw (d+1) (.fn 58) [(Zi time)] h= .ret (AV.agg [(Zi (aX time).time),(Zi (aX time).aj),(Zi (aX time).ah)]) h:=by
 obtain ⟨h1,b9,cL,kt,aO,cz⟩:=jS cj (aR.cells [(Zi 0),(Zi 0),(Zi 0)] 66 false)
 have bQ:Has h h1:=cz
 obtain ⟨h2,adH,iH,Du,fN,Aa⟩:=sa (t:=66) (n:=3) (i:=h.nx) (L:=[(Zi time),(Zi (-9223372036854775808)),(Zi 9223372036854775807)]) cL aO k! rfl rfl (by simp only[AV.cells,List.all_cons,List.all_nil,Bool.and_true,Bool.and_self,ib,fL,ic,ie,ei,kR,kS,kT,kU,kV,ig])
 have im:Has h h2:=Has.bG bQ Aa cj o!
 have e:aX time=(⟨time,(-9223372036854775808),9223372036854775807⟩:Gate):=by simp only[aX,ax,ar]
 rw[e]
 exact aF rfl (kX (a:=2) (t:=66) (i:=h.nx) Try.func58 DE rfl (.inr rfl) (pk (d) _ _ h _ h2 (NN b9 (fun i=>(Pt i))<|CN 3<|SS adH<|ZZ) k!) k! (oh fN k!)) im rfl
def A7:Code:=(Try.f46.body).getD .skip
theorem Ag:Try.f46.body=some A7:=by kernel_rfl
def dJ (q:aw) (r:aB) (failed:Int):Gate:=(bif (Af failed r.aC) then (aX r.time) else (⟨r.time,(IntKind.i64.wrap (r.value -(f_ (q.ao.g r.aC.toNat) r.time))),(IntKind.i64.wrap (r.value+(f_ (q.ao.g r.aC.toNat) r.time)))⟩:Gate))
theorem Io {d:Nat} {h:au} (q:aw) (r:aB) (failed:Int) (jH:az.ok h q) (h_r:az.ok h r) (vb:0≤r.aC) (T8:r.aC<(q.ao.length:Int)) (cj:Tidy h):dw (d+2) (.fn 46) [(AV.agg [(AV.str q.name),(Zi q.ai),(Zi q.af),(Zi q.aH),(Zi q.aJ),(Zi q.bad),q.aA]),(AV.agg [(Zi r.aC),(Zi r.time),(Zi r.value)]),(AV.int .u64 failed)] h= .ret (AV.agg [(Zi (dJ q r failed).time),(Zi (dJ q r failed).aj),(Zi (dJ q r failed).ah)]) h:=by
 have nt:=jH.2.small
 obtain ⟨h1,b9,cL,kt,aO,cz⟩:=jS cj (aR.cells [(AV.str q.name),(Zi q.ai),(Zi q.af),(Zi q.aH),(Zi q.aJ),(Zi q.bad),q.aA] 26 false)
 have bQ:Has h h1:=cz
 obtain ⟨h2,nH,iH,Du,fN,gv⟩:=jS cL (aR.cells [(Zi r.aC),(Zi r.time),(Zi r.value)] 43 false)
 have im:Has h h2:=bQ.trans gv
 obtain ⟨h3,F7,hQ,Xt,xL,hD⟩:=jS iH (aR.cells [(Zi 0),(Zi 0),(Zi 0)] 66 false)
 have jq:Has h h3:=im.trans hD
 have k4:=T7 (d:=d) failed r.aC (by first | omega | assumption | (simp only[List.length_set,List.length_replicate,List.length_append,List.length_cons,List.length_nil,List.nil_append]<;>omega) | (rw[List.length_take];omega)) hQ
 rcases Bool.eq_false_or_eq_true (Af failed r.aC) with f0 | f0
 · have k6:=vc (d:=d) r.time hQ
   obtain ⟨h7,tu,mG,Ln,lO,fA⟩:=sa (t:=66) (n:=3) (i:=h2.nx) (L:=[(Zi (aX r.time).time),(Zi (aX r.time).aj),(Zi (aX r.time).ah)]) hQ xL k! rfl rfl (by simp only[AV.cells,List.all_cons,List.all_nil,Bool.and_true,Bool.and_self,ib,fL,ic,ie,ei,kR,kS,kT,kU,kV,ig])
   have mH:Has h h7:=Has.bG jq fA cj o!
   have e:dJ q r failed=(aX r.time):=by simp only[dJ,f0,ax,ar]
   rw[e]
   exact aF rfl (kX (a:=6) (t:=66) (i:=h2.nx) Try.func46 Ag rfl (.inr rfl) (pk (d+1) _ _ h _ h7 (NN b9 (fun i=>(Pt i))<|NN nH (fun i=>(Pt i))<|NN F7 (fun i=>(Pt i))<|CN 2<|MM (aL 3 0 (Zi r.aC) (hD _ _ fN) k!)<|EE k4<|BC f0<|MM (aL 3 1 (Zi r.time) (hD _ _ fN) k!)<|EE k6<|SS tu<|ZZ) k!) k! (oh lO k!)) mH rfl
 · obtain ⟨p7,q8,aaT⟩:=jH.2.elem (i:=r.aC.toNat) o!
   have Lk:dL env (some (.slice 45)) (some q.aA) (some (Zi r.aC))=some (AV.ptr p7 q8):=by rw[show (r.aC:Int)=((r.aC.toNat:Nat):Int) by omega];exact aaT
   have Xy:bw env h3 45 (AV.ptr p7 q8)=some (AV.agg [(AV.str (q.ao.g r.aC.toNat).name),(Zi (q.ao.g r.aC.toNat).acc),(Zi (q.ao.g r.aC.toNat).b6),(Zi (q.ao.g r.aC.toNat).since)]):=(jH.2.has jq).load o! aaT
   have k10:=FP (d:=d) (q.ao.g r.aC.toNat) r.time (az.mono jq (jH.2.ok (i:=r.aC.toNat) o!)) hQ
   have c11:AV.same 20 q.aA q.aA=true:=jH.2.same 19
   have M1:AV.same 20 (AV.agg [(AV.str (q.ao.g r.aC.toNat).name),(Zi (q.ao.g r.aC.toNat).acc),(Zi (q.ao.g r.aC.toNat).b6),(Zi (q.ao.g r.aC.toNat).since)]) (AV.agg [(AV.str (q.ao.g r.aC.toNat).name),(Zi (q.ao.g r.aC.toNat).acc),(Zi (q.ao.g r.aC.toNat).b6),(Zi (q.ao.g r.aC.toNat).since)])=true:=ja 18 (sx (fun n=>zi n _) (sx (fun n=>aN n _ _) (sx (fun n=>aN n _ _) (sx (fun n=>aN n _ _) RR))))
   obtain ⟨h13,aaU,aeN,aeO,aaV,XJ⟩:=sa (t:=66) (n:=3) (i:=h2.nx) (L:=[(Zi r.time),(Zi (IntKind.i64.wrap (r.value -(f_ (q.ao.g r.aC.toNat) r.time)))),(Zi (IntKind.i64.wrap (r.value+(f_ (q.ao.g r.aC.toNat) r.time))))]) hQ xL k! rfl rfl (by simp only[AV.cells,List.all_cons,List.all_nil,Bool.and_true,Bool.and_self,ib,fL,ic,ie,ei,kR,kS,kT,kU,kV,ig])
   have aaW:Has h h13:=Has.bG jq XJ cj o!
   have e:dJ q r failed=(⟨r.time,(IntKind.i64.wrap (r.value -(f_ (q.ao.g r.aC.toNat) r.time))),(IntKind.i64.wrap (r.value+(f_ (q.ao.g r.aC.toNat) r.time)))⟩:Gate):=by simp only[dJ,f0,ax,ar]
   rw[e]
   exact aF rfl (kX (a:=6) (t:=66) (i:=h2.nx) Try.func46 Ag rfl (.inr rfl) (pk (d+1) _ _ h _ h13 (NN b9 (fun i=>(Pt i))<|NN nH (fun i=>(Pt i))<|NN F7 (fun i=>(Pt i))<|CN 2<|MM (aL 3 0 (Zi r.aC) (hD _ _ fN) k!)<|EE k4<|BC f0<|MM (aL 24 6 q.aA (hD _ _ (gv _ _ aO)) k!)<|CC<|MM (aL 3 0 (Zi r.aC) (hD _ _ fN) k!)<|VV Lk<|MM Xy<|CC<|MM (aL 3 1 (Zi r.time) (hD _ _ fN) k!)<|EE k10<|CC<|HH (aL 24 6 q.aA (hD _ _ (gv _ _ aO)) k!)<|HH c11<|HH (aL 3 0 (Zi r.aC) (hD _ _ fN) k!)<|HH (show AV.same 20 (Zi r.aC) (Zi r.aC)=true from aN 19 _ _)<|HH Xy<|HH M1<|HH (aL 3 1 (Zi r.time) (hD _ _ fN) k!)<|HH (show AV.same 20 (Zi r.time) (Zi r.time)=true from aN 19 _ _)<|CC<|MM (aL 3 1 (Zi r.time) (hD _ _ fN) k!)<|CC<|MM (aL 3 2 (Zi r.value) (hD _ _ fN) k!)<|CN 3<|MM (aL 3 2 (Zi r.value) (hD _ _ fN) k!)<|CN 4<|SS aaU<|ZZ) k!) k! (oh aaV k!)) aaW rfl
structure YlH {X:Type} (call:aW) (b:Nat) (ok:au→List AV→X→Prop) (I:List X→(Nat→Prop)→au→Prop):Prop where
 aM:∀{L P hh},I L P hh→∀k,P k→k<hh.nx
 stay:∀{L P hh hk},I L P hh→Tidy hk→hh.nx≤hk.nx→(∀k w,P k→hh.get k=some w→hk.get k=some w)→I L P hk
 next:∀{L a x P hh},L.length<1000→ok hh a x→I L P hh→Tidy hh→∃hk P',call (.sL b) a hh= .ret (.bool true) hk∧Tidy hk∧hh.nx≤hk.nx∧I (L++[x]) P' hk∧(∀k,P' k→P k∨hh.nx≤k)∧∀k w,¬P k→hh.get k=some w→hk.get k=some w
theorem ba.sl {α:Type} [az α] {h0 h:au} {z:AV} {l:List α} (o:ba h0 h z l) (hn:l≠ []):∃p op,z= .slice p 0 l.length l.length op∧h0.nx≤p∧h.get p=some (.cells (l.flatMap az.c) (az.e α) false):=by
 rcases o with ⟨_,rfl⟩ | ⟨_,p,op,e,hp,hg⟩
 · exact absurd rfl hn
 · exact ⟨p,op,e,hp,hg⟩
theorem bA.ne {z:AV} {k p o n c:Nat} {b:Bool} (ni:bA z k) (e:z= .slice p o n c b):k≠p:=fun q=>ni _ _ _ _ (by rw[e,q])
def mM:Code:=(Try.f44.body).getD .skip
theorem aaX:Try.f44.body=some mM:=by kernel_rfl
def eP:Code:=(cX mM).getD 0 .skip
def DF:Code:=(cX mM).getD 1 .skip
def cf (q:aw) (l:List aB) (s0:Int):Nat→Nat→List Gate→List Gate
 | 0,_,tE=>tE
 | bj+1,i1,tE=>cf q l s0 bj (i1+1) (tE++[(dJ q (l.g i1) s0)])
theorem Ah {d:Nat} {rc:RC} {h:au} (s0:Int) (lv:AV) (l:List aB) (q:aw) (rv:AV) (b:Nat) (r:List Gate) (eu:Nat) (fT:Nat) (wa:Nat) (wb:Nat) (qZ:aQ h lv l) (q9:q.name.length<2^60) (XK:aQ h q.aA q.ao) (XL:aQ h rv r) (TJ:az.ok h q) (XM:∀k,k<l.length→0≤(l.g k).aC∧(l.g k).aC<(q.ao.length:Int)) (adI:l.length≤12) (cj:Tidy h) (H_:eu<h.nx) (TL:fT<h.nx) (adJ:wa<h.nx) (adK:wb<h.nx) (Ie:fT≠eu) (XN:wa≠eu) (XO:wa≠fT) (XP:wb≠eu) (XQ:wb≠fT) (XR:wb≠wa):∀(k_ i_:Nat) (tE:List Gate) (wc:AV) (_:i_+k_=l.length) (x:Nat→AV) (hh:au) (a_:Tidy hh) (bN:Has h hh) (nJ:h.nx≤hh.nx) (hB:hh.get eu=some (aR.cells [(AV.str q.name),(Zi q.ai),(Zi q.af),(Zi q.aH),(Zi q.aJ),(Zi q.bad),q.aA] 26 false)) (lP:hh.get fT=some (aR.cells [rv] 69 false)) (Ip:hh.get wa=some (aR.cells [lv] 27 false)) (Iq:hh.get wb=some (aR.cells [(AV.cr b)] 86 false)) (Ge:ba h hh wc tE) (DG:∀y∈tE,az.ok hh y) (Vz:tE.length≤1*i_+2) (j3:bA wc eu) (j4:bA wc fT) (j5:bA wc wa) (j6:bA wc wb),qH rc (σ:=List Gate) (ζ:=AV) (dw (d+8)) DF ⟨((x 0)::(Pt eu)::(x 2)::(Pt fT)::(Pt wa)::(Pt wb)::(AV.int .u64 s0)::wc::rx x 8 15 (lv::(Zn l.length)::(Zn i_)::rx x 26 24 [])),hh,[],rc⟩ (.exit 2) hh (fun r z y=>((y 0)::(Pt eu)::(y 2)::(Pt fT)::(Pt wa)::(Pt wb)::(AV.int .u64 s0)::z::rx y 8 15 (lv::(Zn l.length)::rx y 25 25 []))) (fun r z hk=>Has h hk∧hk.get eu=some (aR.cells [(AV.str q.name),(Zi q.ai),(Zi q.af),(Zi q.aH),(Zi q.aJ),(Zi q.bad),q.aA] 26 false)∧hk.get fT=some (aR.cells [rv] 69 false)∧hk.get wa=some (aR.cells [lv] 27 false)∧hk.get wb=some (aR.cells [(AV.cr b)] 86 false)∧ba h hk z r∧(∀y∈r,az.ok hk y)∧r.length≤1*l.length+2∧bA z eu∧bA z fT∧bA z wa∧bA z wb) (cf q l s0 k_ i_ tE)
 | 0,i1,tE,wc,rR,x,hh,a_,bN,nJ,hB,lP,Ip,Iq,Ge,DG,Vz,j3,j4,j5,j6=>by
   have Ir:=qZ.small
   have XS:=XK.small
   have XT:=XL.small
   have PC:=a_ _ _ hB
   have Xz:=a_ _ _ lP
   have adL:=a_ _ _ Ip
   have adM:=a_ _ _ Iq
   have rg_:=XM i1
   have q1:(decide (((i1:Nat):Int)<((l.length:Nat):Int)))=false:=d!
   have ev:=W9 rc (d+8) DF ((x 0)::(Pt eu)::(x 2)::(Pt fT)::(Pt wa)::(Pt wb)::(AV.int .u64 s0)::wc::rx x 8 15 (lv::(Zn l.length)::(Zn i1)::rx x 26 24 [])) hh (.exit 2) hh (VV (cS 3 false false .i64 ((i1:Nat):Int) ((l.length:Nat):Int))<|BB q1<|ZZ) k!
   exact qH.out tE wc rfl ev a_ o! ⟨bN,hB,lP,Ip,Iq,Ge,DG,(by first | omega | (simp<;>omega)),j3,j4,j5,j6⟩ k!
 | bj+1,i1,tE,wc,rR,x,hh,a_,bN,nJ,hB,lP,Ip,Iq,Ge,DG,Vz,j3,j4,j5,j6=>by
   have Ir:=qZ.small
   have XS:=XK.small
   have XT:=XL.small
   have PC:=a_ _ _ hB
   have Xz:=a_ _ _ lP
   have adL:=a_ _ _ Ip
   have adM:=a_ _ _ Iq
   have rg_:=XM i1
   have q1:(decide (((i1:Nat):Int)<((l.length:Nat):Int)))=true:=d!
   obtain ⟨p3,q4,kY⟩:=qZ.elem (i:=i1) o!
   have mU:dL env (some (.slice 43)) (some lv) (some (Zn i1))=some (AV.ptr p3 q4):=kY
   have AJ:bw env hh 43 (AV.ptr p3 q4)=some (AV.agg [(Zi (l.g i1).aC),(Zi (l.g i1).time),(Zi (l.g i1).value)]):=(qZ.has bN).load o! kY
   obtain ⟨h6,vV,js,Lm,vW,j0⟩:=jS a_ (aR.cells [(Zi 0),(Zi 0),(Zi 0)] 43 false)
   have mV:Has h h6:=bN.trans j0
   have j7:Has hh h6:=j0
   obtain ⟨h7,tu,mG,Ln,lO,fA⟩:=sa (t:=43) (n:=3) (i:=hh.nx) (L:=[(Zi (l.g i1).aC),(Zi (l.g i1).time),(Zi (l.g i1).value)]) js vW k! rfl rfl (by simp only[AV.cells,List.all_cons,List.all_nil,Bool.and_true,Bool.and_self,ib,fL,ic,ie,ei,kR,kS,kT,kU,kV,ig])
   have mH:Has h h7:=Has.bG mV fA cj o!
   have lQ:Has hh h7:=Has.bG j7 fA a_ o!
   have Is:ba h h7 wc tE:=ba.kept (ba.has Ge j7) fA (ba.BS a_ Ge o!)
   have k8:=Io (d:=d+6) q (l.g i1) s0 (az.mono mH TJ) trivial (by first | omega | assumption | (simp only[List.length_set,List.length_replicate,List.length_append,List.length_cons,List.length_nil,List.nil_append]<;>omega) | (rw[List.length_take];omega)) (by first | omega | assumption | (simp only[List.length_set,List.length_replicate,List.length_append,List.length_cons,List.length_nil,List.nil_append]<;>omega) | (rw[List.length_take];omega)) mG
   obtain ⟨h9,adN,PM,afK,adO,Ai⟩:=jS mG (aR.cells [(Zi (dJ q (l.g i1) s0).time),(Zi (dJ q (l.g i1) s0).aj),(Zi (dJ q (l.g i1) s0).ah)] 66 false)
   have adP:Has h h9:=mH.trans Ai
   have acw:Has hh h9:=lQ.trans Ai
   have T9:Has h7 h9:=Ai
   obtain ⟨z11,tI,XU,sB,VA,aaY,adQ,pt,DH⟩:=ba.HL (tys:= #[69,69]) (l:=tE) (m:=[(dJ q (l.g i1) s0)]) (x:=(AV.slice h7.nx 0 1 1 false)) PM cj adP o! (ba.has Is T9) rfl (pc (x:=(dJ q (l.g i1) s0)) adO) (by simp [az.c,Gate.c,AV.scalar]) (by first | omega | (simp<;>omega)) rfl rfl k! k! (bytes:=24) k! (z0:=(AV.agg [(Zi 0),(Zi 0),(Zi 0)])) k! rfl (by decide)
   have sC:Has h tI:=aaY
   have XV:∀y∈(tE++[(dJ q (l.g i1) s0)]),az.ok tI y:=cR (D:=Gate) (nE (cR (D:=Gate) (h':=h9) DG) (ok_one trivial))
   have Xd:=ks 3 false true i1 1 o!
   have ev:=W9 rc (d+8) DF ((x 0)::(Pt eu)::(x 2)::(Pt fT)::(Pt wa)::(Pt wb)::(AV.int .u64 s0)::wc::rx x 8 15 (lv::(Zn l.length)::(Zn i1)::rx x 26 24 [])) hh .normal tI (VV (cS 3 false false .i64 ((i1:Nat):Int) ((l.length:Nat):Int))<|BV q1 mU<|MM AJ<|NN vV (fun i=>(Pt i))<|SS tu<|CC<|MM (aL 26 0 (AV.agg [(AV.str q.name),(Zi q.ai),(Zi q.af),(Zi q.aH),(Zi q.aJ),(Zi q.bad),q.aA]) (fA _ _ o! (j0 _ _ hB)) k!)<|MM (aL 43 0 (AV.agg [(Zi (l.g i1).aC),(Zi (l.g i1).time),(Zi (l.g i1).value)]) lO k!)<|CC<|EE k8<|NN adN (fun i=>(AV.slice i 0 1 1 false))<|PP (show bf env h9 #[69,69] wc (AV.slice h7.nx 0 1 1 false)=some (z11,tI) from XU)<|CC<|VV Xd<|CC<|ZZ) k!
   exact qH.round (by simp only[cf,ax,ar]) ev o! _ k! (fun x=>Ah s0 lv l q rv b r eu fT wa wb qZ q9 XK XL TJ XM adI cj H_ TL adJ adK Ie XN XO XP XQ XR bj (i1+1) (tE++[(dJ q (l.g i1) s0)]) z11 o! x tI sB sC o! (pt _ _ j3 (Ai _ _ (fA _ _ o! (j0 _ _ hB)))) (pt _ _ j4 (Ai _ _ (fA _ _ o! (j0 _ _ lP)))) (pt _ _ j5 (Ai _ _ (fA _ _ o! (j0 _ _ Ip)))) (pt _ _ j6 (Ai _ _ (fA _ _ o! (j0 _ _ Iq)))) adQ XV (by first | omega | (simp<;>omega)) (DH _ (PM _ _ (Ai _ _ (fA _ _ o! (j0 _ _ hB)))) j3) (DH _ (PM _ _ (Ai _ _ (fA _ _ o! (j0 _ _ lP)))) j4) (DH _ (PM _ _ (Ai _ _ (fA _ _ o! (j0 _ _ Ip)))) j5) (DH _ (PM _ _ (Ai _ _ (fA _ _ o! (j0 _ _ Iq)))) j6))
theorem It (q:aw) (l:List aB) (s0:Int):∀(k i:Nat) (v:List Gate),i+k=l.length→cf q l s0 k i v=v++(l.drop i).map fun r=>dJ q r s0
 | 0,i,v,h=>by rw[cf,List.drop_eq_nil_of_le o!,List.map_nil,List.append_nil]
 | k+1,i,v,h=>by
   rw[cf,It q l s0 k (i+1) _ o!,List.drop_eq_getElem_cons (show i<l.length by omega),List.map_cons,List.append_assoc]
   have:l.g i=l[i]'o! :=by rw[List.g,List.getD_eq_getElem?_getD,List.getElem?_eq_getElem o!];rfl
   rw[this];rfl
theorem Aj {q:aw} {l:List aB} {s0:Int} {g:Gate} {r:List Gate} (_:Unit):cf q l s0 l.length 0 ([g]++r)≠ []:=by
 rw[It q l s0 _ _ _ o!];simp
theorem PN {d:Nat} {h:au} {q:aw} {l:List aB} {r:List Gate} {m s0:Int} {lv rv:AV} {b bq bm br bl by_ lp:Nat} (x:Nat→AV) (cj:Tidy h) (hq:az.ok h q) (hl:aQ h lv l) (hr:aQ h rv r) (Ej:l.length≤12) (YN:r.length≤1) (hg:∀k,k<l.length→0≤(l.g k).aC∧(l.g k).aC<(q.ao.length:Int)) (gq:h.get bq=some (.cells (az.c q) 26 false)) (gm:h.get bm=some (.cells [Zi m] 3 false)) (gr:h.get br=some (.cells [rv] 69 false)) (gl:h.get bl=some (.cells [lv] 27 false)) (gy:h.get by_=some (.cells [.cr b] 86 false)) (dd:bq<bl∧bl<bm∧bm<br∧br<by_) (hc:(gU q (cf q l s0 l.length 0 (([(⟨0,q.ai,q.af⟩:Gate)])++r)).length ((cf q l s0 l.length 0 (([(⟨0,q.ai,q.af⟩:Gate)])++r)).length - 1) 1 (ef (cf q l s0 l.length 0 (([(⟨0,q.ai,q.af⟩:Gate)])++r)).length ((cf q l s0 l.length 0 (([(⟨0,q.ai,q.af⟩:Gate)])++r)).length - 1) 1 (cf q l s0 l.length 0 (([(⟨0,q.ai,q.af⟩:Gate)])++r))))=none):
 ∃iN h',Ev env (dw (d+8)) eP ⟨((AV.cr b)::(Pt bq)::(Pt bm)::(Pt br)::(Pt bl)::(Pt by_)::(AV.int .u64 s0)::rx x 7 9 ((AV.int .u64 s0)::rx x 17 33 [])),h,[],.pT lp⟩ .normal ⟨iN,h',[],.pT lp⟩∧Tidy h'∧h.nx≤h'.nx∧Has h h':=by
 have T_q:=cj _ _ gq
 have T_m:=cj _ _ gm
 have T_r:=cj _ _ gr
 have T_l:=cj _ _ gl
 have T_y:=cj _ _ gy
 have s_l:=hl.small
 have s_r:=hr.small
 obtain ⟨h1,b9,cL,kt,aO,cz⟩:=jS cj (aR.cells [(Zi 0),(Zi q.ai),(Zi q.af)] 66 false)
 have bQ:Has h h1:=cz
 have YO:ba h h1 (AV.slice h.nx 0 1 1 false) [(⟨0,q.ai,q.af⟩:Gate)]:= .inr ⟨by simp,h.nx,false,rfl,by omega,aO⟩
 obtain ⟨z3,h2,PO,iH,Ih,XW,oz4,re,vd⟩:=ba.HL (tys:= #[69,69]) (l:=[(⟨0,q.ai,q.af⟩:Gate)]) (m:=r) (x:=rv) cL cj bQ o! YO (hr.has bQ).jD (hr.has bQ).first (jw (hr.has bQ) (fun y hy=>by simp [az.c,Gate.c,AV.scalar])) (by first | omega | (simp<;>omega)) rfl rfl k! k! (bytes:=24) k! (z0:=(AV.agg [(Zi 0),(Zi 0),(Zi 0)])) k! rfl (by decide)
 have im:Has h h2:=XW
 have PQ:∀y∈(([(⟨0,q.ai,q.af⟩:Gate)])++r),az.ok h2 y:=cR (D:=Gate) (nE (cR (D:=Gate) (h':=h1) (ok_one (h:=h1) trivial)) (hr.has bQ).Dp)
 have JY:eF (some (.slice 43)) (some lv)=some (Zn l.length):=hl.len
 obtain ⟨zo9,yl7,h8,Iu,T_,adR,PS,Iv,XX,XY,PT,Ak,DI,XZ,xN,xO,xP,pJ⟩:=Ah (d:=d) (rc:=(.pT lp)) (h:=h) s0 lv l q rv b r bq br bl by_ hl hq.1 hq.2 hr hq hg Ej cj o! o! o! o! o! o! o! o! o! o! l.length 0 (([(⟨0,q.ai,q.af⟩:Gate)])++r) z3 o! (fun k_=>(((AV.cr b)::(Pt bq)::(Pt bm)::(Pt br)::(Pt bl)::(Pt by_)::(AV.int .u64 s0)::z3::rx x 8 8 ((AV.int .u64 s0)::(AV.ptr bq 1)::(AV.agg [(Zi q.ai),(Zi q.af)])::(AV.agg [(Zi 0),(Zi q.ai),(Zi q.af)])::(AV.slice h.nx 0 1 1 false)::rv::z3::lv::(Zn l.length)::(Zi 0)::rx x 26 24 [])):List AV).getD k_ AV.undef) h2 iH im o! (re _ _ (bA.slice o!) (cz _ _ gq)) (re _ _ (bA.slice o!) (cz _ _ gr)) (re _ _ (bA.slice o!) (cz _ _ gl)) (re _ _ (bA.slice o!) (cz _ _ gy)) oz4 PQ (by first | omega | (simp<;>omega)) (vd _ (cL _ _ (cz _ _ gq)) (bA.slice o!)) (vd _ (cL _ _ (cz _ _ gr)) (bA.slice o!)) (vd _ (cL _ _ (cz _ _ gl)) (bA.slice o!)) (vd _ (cL _ _ (cz _ _ gy)) (bA.slice o!))
 have Iw:aQ h8 zo9 (cf q l s0 l.length 0 (([(⟨0,q.ai,q.af⟩:Gate)])++r)):=ba.rows Ak o! DI
 have T':=Iw.small
 have Ix:Has h h8:=PS
 obtain ⟨Ua,PU,DJ,Al,Iy⟩:=ba.sl Ak (Aj ())
 obtain ⟨tI,X0,Am,sB,VA,pt,PV,Iz⟩:=aaM (d:=d) (g:=h) (p:=Ua) (op:=PU) (L:=(cf q l s0 l.length 0 (([(⟨0,q.ai,q.af⟩:Gate)])++r))) q hq Ix (yg cj Al) T_ Iy rfl o! (List.length_pos_iff.2 (Aj ()))
 rw[PV hc] at Am
 have PW:(dw (d+8)) (.fn 47) [(AV.agg [(AV.str q.name),(Zi q.ai),(Zi q.af),(Zi q.aH),(Zi q.aJ),(Zi q.bad),q.aA]),zo9] h8= .ret AV.aI tI:=by rw[DJ];exact Am
 have sC:Has h tI:=(Has.bG Ix pt cj Al)
 have ev:=W9 (.pT lp) (d+8) eP ((AV.cr b)::(Pt bq)::(Pt bm)::(Pt br)::(Pt bl)::(Pt by_)::(AV.int .u64 s0)::rx x 7 9 ((AV.int .u64 s0)::rx x 17 33 [])) h .normal tI (CC<|MM (aL 23 1 (AV.agg [(Zi q.ai),(Zi q.af)]) gq k!)<|CC<|NN b9 (fun i=>(AV.slice i 0 1 1 false))<|MM (aL 69 0 rv (cz _ _ gr) k!)<|PP (show bf env h1 #[69,69] (AV.slice h.nx 0 1 1 false) rv=some (z3,h2) from PO)<|CC<|MM (aL 27 0 lv (re _ _ (bA.slice o!) (cz _ _ gl)) k!)<|VV JY<|CC<|LL Iu<|MM (aL 26 0 (AV.agg [(AV.str q.name),(Zi q.ai),(Zi q.af),(Zi q.aH),(Zi q.aJ),(Zi q.bad),q.aA]) Iv k!)<|CC<|EE PW<|CN 5<|FF<|FF<|FF<|FF<|FF<|CC<|FF<|ZZ) k!
 exact ⟨_,_,ev,sB,by omega,sC⟩
theorem PX {d:Nat} {h:au} {q:aw} {l:List aB} {r:List Gate} {m s0:Int} {lv rv:AV} {b bq bm br bl by_ lp:Nat} (x:Nat→AV) (cj:Tidy h) (hq:az.ok h q) (hl:aQ h lv l) (hr:aQ h rv r) (Ej:l.length≤12) (YN:r.length≤1) (hg:∀k,k<l.length→0≤(l.g k).aC∧(l.g k).aC<(q.ao.length:Int)) (gq:h.get bq=some (.cells (az.c q) 26 false)) (gm:h.get bm=some (.cells [Zi m] 3 false)) (gr:h.get br=some (.cells [rv] 69 false)) (gl:h.get bl=some (.cells [lv] 27 false)) (gy:h.get by_=some (.cells [.cr b] 86 false)) (dd:bq<bl∧bl<bm∧bm<br∧br<by_) {w:List Gate} (hc:(gU q (cf q l s0 l.length 0 (([(⟨0,q.ai,q.af⟩:Gate)])++r)).length ((cf q l s0 l.length 0 (([(⟨0,q.ai,q.af⟩:Gate)])++r)).length - 1) 1 (ef (cf q l s0 l.length 0 (([(⟨0,q.ai,q.af⟩:Gate)])++r)).length ((cf q l s0 l.length 0 (([(⟨0,q.ai,q.af⟩:Gate)])++r)).length - 1) 1 (cf q l s0 l.length 0 (([(⟨0,q.ai,q.af⟩:Gate)])++r))))=some w) {ok:au→List AV→(Int×List Gate)→Prop} {I:List (Int×List Gate)→(Nat→Prop)→au→Prop} (yl:YlH (dw (d+8)) b ok I) {L:List (Int×List Gate)} {P:Nat→Prop} (hLL:L.length<1000) (hi:I L P h) (iW:∀{hk:au} {p:Nat} {op:Bool},hk.get p=some (.cells (List.flatMap (az.c (α:=Gate)) (gV q ((cf q l s0 l.length 0 (([(⟨0,q.ai,q.af⟩:Gate)])++r)).length - 1) 0 w)) 66 false)→ok hk [.int .u64 s0,.slice p 0 (cf q l s0 l.length 0 (([(⟨0,q.ai,q.af⟩:Gate)])++r)).length (cf q l s0 l.length 0 (([(⟨0,q.ai,q.af⟩:Gate)])++r)).length op] (s0,gV q ((cf q l s0 l.length 0 (([(⟨0,q.ai,q.af⟩:Gate)])++r)).length - 1) 0 w)) (afL:¬P bq) (afM:¬P bm) (afN:¬P br) (afO:¬P bl) (aeQ:¬P by_):
 ∃iN h' P',Ev env (dw (d+8)) eP ⟨((AV.cr b)::(Pt bq)::(Pt bm)::(Pt br)::(Pt bl)::(Pt by_)::(AV.int .u64 s0)::rx x 7 9 ((AV.int .u64 s0)::rx x 17 33 [])),h,[],.pT lp⟩ .normal ⟨iN,h',[],.pT lp⟩∧Tidy h'∧h.nx≤h'.nx∧I (L++[(s0,gV q ((cf q l s0 l.length 0 (([(⟨0,q.ai,q.af⟩:Gate)])++r)).length - 1) 0 w)]) P' h'∧(∀j,P' j→P j∨h.nx≤j)∧Left P h h':=by
 have T_q:=cj _ _ gq
 have T_m:=cj _ _ gm
 have T_r:=cj _ _ gr
 have T_l:=cj _ _ gl
 have T_y:=cj _ _ gy
 have s_l:=hl.small
 have s_r:=hr.small
 have np_:0<(cf q l s0 l.length 0 (([(⟨0,q.ai,q.af⟩:Gate)])++r)).length:=List.length_pos_iff.2 (Aj ())
 obtain ⟨h1,b9,cL,kt,aO,cz⟩:=jS cj (aR.cells [(Zi 0),(Zi q.ai),(Zi q.af)] 66 false)
 have bQ:Has h h1:=cz
 have YO:ba h h1 (AV.slice h.nx 0 1 1 false) [(⟨0,q.ai,q.af⟩:Gate)]:= .inr ⟨by simp,h.nx,false,rfl,by omega,aO⟩
 obtain ⟨z3,h2,PO,iH,Ih,XW,oz4,re,vd⟩:=ba.HL (tys:= #[69,69]) (l:=[(⟨0,q.ai,q.af⟩:Gate)]) (m:=r) (x:=rv) cL cj bQ o! YO (hr.has bQ).jD (hr.has bQ).first (jw (hr.has bQ) (fun y hy=>by simp [az.c,Gate.c,AV.scalar])) (by first | omega | (simp<;>omega)) rfl rfl k! k! (bytes:=24) k! (z0:=(AV.agg [(Zi 0),(Zi 0),(Zi 0)])) k! rfl (by decide)
 have im:Has h h2:=XW
 have PQ:∀y∈(([(⟨0,q.ai,q.af⟩:Gate)])++r),az.ok h2 y:=cR (D:=Gate) (nE (cR (D:=Gate) (h':=h1) (ok_one (h:=h1) trivial)) (hr.has bQ).Dp)
 have JY:eF (some (.slice 43)) (some lv)=some (Zn l.length):=hl.len
 obtain ⟨zo9,yl7,h8,Iu,T_,adR,PS,Iv,XX,XY,PT,Ak,DI,XZ,xN,xO,xP,pJ⟩:=Ah (d:=d) (rc:=(.pT lp)) (h:=h) s0 lv l q rv b r bq br bl by_ hl hq.1 hq.2 hr hq hg Ej cj o! o! o! o! o! o! o! o! o! o! l.length 0 (([(⟨0,q.ai,q.af⟩:Gate)])++r) z3 o! (fun k_=>(((AV.cr b)::(Pt bq)::(Pt bm)::(Pt br)::(Pt bl)::(Pt by_)::(AV.int .u64 s0)::z3::rx x 8 8 ((AV.int .u64 s0)::(AV.ptr bq 1)::(AV.agg [(Zi q.ai),(Zi q.af)])::(AV.agg [(Zi 0),(Zi q.ai),(Zi q.af)])::(AV.slice h.nx 0 1 1 false)::rv::z3::lv::(Zn l.length)::(Zi 0)::rx x 26 24 [])):List AV).getD k_ AV.undef) h2 iH im o! (re _ _ (bA.slice o!) (cz _ _ gq)) (re _ _ (bA.slice o!) (cz _ _ gr)) (re _ _ (bA.slice o!) (cz _ _ gl)) (re _ _ (bA.slice o!) (cz _ _ gy)) oz4 PQ (by first | omega | (simp<;>omega)) (vd _ (cL _ _ (cz _ _ gq)) (bA.slice o!)) (vd _ (cL _ _ (cz _ _ gr)) (bA.slice o!)) (vd _ (cL _ _ (cz _ _ gl)) (bA.slice o!)) (vd _ (cL _ _ (cz _ _ gy)) (bA.slice o!))
 have Iw:aQ h8 zo9 (cf q l s0 l.length 0 (([(⟨0,q.ai,q.af⟩:Gate)])++r)):=ba.rows Ak o! DI
 have T':=Iw.small
 have Ix:Has h h8:=PS
 obtain ⟨Ua,PU,DJ,Al,Iy⟩:=ba.sl Ak (Aj ())
 obtain ⟨tI,X0,Am,sB,VA,pt,PV,Iz⟩:=aaM (d:=d) (g:=h) (p:=Ua) (op:=PU) (L:=(cf q l s0 l.length 0 (([(⟨0,q.ai,q.af⟩:Gate)])++r))) q hq Ix (yg cj Al) T_ Iy rfl o! (List.length_pos_iff.2 (Aj ()))
 rw[(Iz _ hc).1] at Am
 have PW:(dw (d+8)) (.fn 47) [(AV.agg [(AV.str q.name),(Zi q.ai),(Zi q.af),(Zi q.aH),(Zi q.aJ),(Zi q.bad),q.aA]),zo9] h8= .ret (AV.slice Ua 0 (cf q l s0 l.length 0 (([(⟨0,q.ai,q.af⟩:Gate)])++r)).length (cf q l s0 l.length 0 (([(⟨0,q.ai,q.af⟩:Gate)])++r)).length PU) tI:=by rw[DJ];exact Am
 have sC:Has h tI:=(Has.bG Ix pt cj Al)
 have YP:(decide (0<(((cf q l s0 l.length 0 (([(⟨0,q.ai,q.af⟩:Gate)])++r)).length:Nat):Int)))=true:=d!
 obtain ⟨h14,aaZ,aa0,aa1,aeR,aa2,aa3,X1⟩:=yl.next (L:=L) (P:=P) hLL (iW (op:=PU) (Iz _ hc).2) (yl.stay hi sB o! (fun k w _ g=>sC _ _ g)) sB
 have ev:=W9 (.pT lp) (d+8) eP ((AV.cr b)::(Pt bq)::(Pt bm)::(Pt br)::(Pt bl)::(Pt by_)::(AV.int .u64 s0)::rx x 7 9 ((AV.int .u64 s0)::rx x 17 33 [])) h .normal h14 (CC<|MM (aL 23 1 (AV.agg [(Zi q.ai),(Zi q.af)]) gq k!)<|CC<|NN b9 (fun i=>(AV.slice i 0 1 1 false))<|MM (aL 69 0 rv (cz _ _ gr) k!)<|PP (show bf env h1 #[69,69] (AV.slice h.nx 0 1 1 false) rv=some (z3,h2) from PO)<|CC<|MM (aL 27 0 lv (re _ _ (bA.slice o!) (cz _ _ gl)) k!)<|VV JY<|CC<|LL Iu<|MM (aL 26 0 (AV.agg [(AV.str q.name),(Zi q.ai),(Zi q.af),(Zi q.aH),(Zi q.aJ),(Zi q.bad),q.aA]) Iv k!)<|CC<|EE PW<|CN 3<|VV (dx 3 false true .i64 (((cf q l s0 l.length 0 (([(⟨0,q.ai,q.af⟩:Gate)])++r)).length:Nat):Int) 0)<|CC<|BM YP (aL 86 0 (AV.cr b) (pt _ _ (pJ.ne DJ) PT) k!)<|BC YP<|BC YP<|BB YP<|AA (.e (.bool true) h14)<|HH aa0<|BC YP<|VV (jG false false YP)<|FF<|ZZ) k!
 exact ⟨_,_,aaZ,ev,aa1,by omega,aa2,fun j hj=>(aa3 j hj).imp id fun _=>by omega,fun j w hj gw=>X1 _ _ hj (sC _ _ gw)⟩
def PY:Code→Code
 | .seq a b=>match PY a with
   | .skip=>PY b
   | c=>c
 | .block _ b=>PY b
 | .rangeFunc _ _ a _=>a
 | _=> .skip
def ir:Code:=PY mM
theorem An {call:aW} {c:Code} {s:St} {e:gR} {L L':List AV} {h:au} {rc:RC} (q:L=L') (ev:Ev env call c s e ⟨L,h,[],rc⟩):Ev env call c s e ⟨L',h,[],rc⟩:=q▸ev
theorem JZ {d:Nat} (x:Nat→AV) (b bq bm br bl by_ lp:Nat) (s0:Int) (h:au):
 Ev env (dw (d+8)) ir ⟨(AV.cr b)::(Pt bq)::(Pt bm)::(Pt br)::(Pt bl)::(Pt by_)::rx x 6 10 ((AV.int .u64 s0)::rx x 17 33 []),h,[],.pT lp⟩ .normal ⟨(AV.cr b)::(Pt bq)::(Pt bm)::(Pt br)::(Pt bl)::(Pt by_)::(AV.int .u64 s0)::rx x 7 9 ((AV.int .u64 s0)::rx x 17 33 []),h,[],.pT lp⟩:=by
 have ev:=W9 (.pT lp) (d+8) ir ((AV.cr b)::(Pt bq)::(Pt bm)::(Pt br)::(Pt bl)::(Pt by_)::rx x 6 10 ((AV.int .u64 s0)::rx x 17 33 [])) h .normal h (CC<|ZZ) k!
 exact An (by kernel_rfl) ev
theorem J0 (x:Nat→AV) (b bq bm br bl by_:Nat) (a:AV):([16].zip [a]).foldl (fun ts y=>ts.set y.1 y.2) ((AV.cr b)::(Pt bq)::(Pt bm)::(Pt br)::(Pt bl)::(Pt by_)::rx x 6 44 [])=(AV.cr b)::(Pt bq)::(Pt bm)::(Pt br)::(Pt bl)::(Pt by_)::rx x 6 10 (a::rx x 17 33 []):=by kernel_rfl
def sD (q:aw) (l:List aB) (r:List Gate) (s0:Int):Nat:=(cf q l s0 l.length 0 (([(⟨0,q.ai,q.af⟩:Gate)])++r)).length
def cZ (q:aw) (l:List aB) (r:List Gate) (s0:Int):Option (List Gate):=(gU q (cf q l s0 l.length 0 (([(⟨0,q.ai,q.af⟩:Gate)])++r)).length ((cf q l s0 l.length 0 (([(⟨0,q.ai,q.af⟩:Gate)])++r)).length - 1) 1 (ef (cf q l s0 l.length 0 (([(⟨0,q.ai,q.af⟩:Gate)])++r)).length ((cf q l s0 l.length 0 (([(⟨0,q.ai,q.af⟩:Gate)])++r)).length - 1) 1 (cf q l s0 l.length 0 (([(⟨0,q.ai,q.af⟩:Gate)])++r)))).map (gV q ((cf q l s0 l.length 0 (([(⟨0,q.ai,q.af⟩:Gate)])++r)).length - 1) 0)
def J1 (q:aw) (l:List aB) (r:List Gate):List AV→Option (Int×List Gate)
 | [.int .u64 s]=>(cZ q l r s).map fun w=>(s,w)
 | _=>none
def kz (x:Nat→AV) (b bq bm br bl by_:Nat):List AV:=(AV.cr b)::(Pt bq)::(Pt bm)::(Pt br)::(Pt bl)::(Pt by_)::rx x 6 44 []
def ExI (I:List (Int×List Gate)→(Nat→Prop)→au→Prop) (g:au) (q:aw) (l:List aB) (r:List Gate) (m:Int) (lv rv:AV) (b bq bm br bl by_ lp:Nat) (x:Nat→AV) (dn:Nat) (L:List (List AV)) (P':Nat→Prop) (hh:au):Prop:=
 ∃P0:Nat→Prop,I (L.filterMap (J1 q l r)) P0 hh∧Has g hh∧g.nx≤hh.nx∧lp<hh.nx∧hh.get bq=some (.cells (az.c q) 26 false)∧hh.get bm=some (.cells [Zi m] 3 false)∧hh.get br=some (.cells [rv] 69 false)∧hh.get bl=some (.cells [lv] 27 false)∧hh.get by_=some (.cells [.cr b] 86 false)∧hh.get lp=some (.loop .ready none (kz x b bq bm br bl by_) [16] ir eP dn)∧(∀k,P0 k→g.get k=none∧k≠bq∧k≠bm∧k≠br∧k≠bl∧k≠by_∧k≠lp)∧∀k,P' k↔(P0 k∨(∃w,g.get k=some w)∨k=bq∨k=bm∨k=br∨k=bl∨k=by_∨k=lp)
theorem X2 {d:Nat} {g:au} {q:aw} {l:List aB} {r:List Gate} {m:Int} {lv rv:AV} {b bq bm br bl by_ lp:Nat} (x:Nat→AV) (dn:Nat) (VB:Tidy g) (hq:az.ok g q) (hl:aQ g lv l) (hr:aQ g rv r) (Ej:l.length≤12) (YN:r.length≤1) (hg:∀k,k<l.length→0≤(l.g k).aC∧(l.g k).aC<(q.ao.length:Int)) (dd:bq<bl∧bl<bm∧bm<br∧br<by_) (gb:g.nx≤bq) (bp:by_<lp)
 {ok:au→List AV→(Int×List Gate)→Prop} {I:List (Int×List Gate)→(Nat→Prop)→au→Prop} (yl:YlH (dw (d+8)) b ok I) (iW:∀{s0:Int} {w:List Gate} {hk:au} {p:Nat} {op:Bool},cZ q l r s0=some w→hk.get p=some (.cells (List.flatMap (az.c (α:=Gate)) w) 66 false)→ok hk [.int .u64 s0,.slice p 0 (sD q l r s0) (sD q l r s0) op] (s0,w)):
 Yl (dw (d+9)) lp (fun a=>∃s0:Int,a=[AV.int .u64 s0]) (ExI I g q l r m lv rv b bq bm br bl by_ lp x dn) where
 aM:=by
  rintro L P' hh ⟨P0,i0,ag,gn,gx,gq,gm,gr,gl,gy,gp,nP,pp⟩ k hk
  rcases (pp k).1 hk with p | ⟨w,p⟩ | p
  · exact yl.aM i0 k p
  · have:=VB _ _ p;omega
  · omega
 stay:=by
  rintro L P' hh hk ⟨P0,i0,ag,gn,gx,gq,gm,gr,gl,gy,gp,nP,pp⟩ yk nk kp
  have K:=fun k w (c:P0 k∨(∃w,g.get k=some w)∨k=bq∨k=bm∨k=br∨k=bl∨k=by_∨k=lp) e=>kp k w ((pp k).2 c) e
  exact ⟨P0,yl.stay i0 yk nk fun k w p e=>K k w (.inl p) e,fun k w e=>K k w (.inr (.inl ⟨_,e⟩)) (ag _ _ e),by omega,by omega,K _ _ (by simp) gq,K _ _ (by simp) gm,K _ _ (by simp) gr,K _ _ (by simp) gl,K _ _ (by simp) gy,K _ _ (by simp) gp,nP,pp⟩
 next:=by
  rintro L a P' hh hLL ⟨s0,rfl⟩ ⟨P0,i0,ag,gn,gx,gq,gm,gr,gl,gy,gp,nP,pp⟩ y
  have T1:=y _ _ gp
  have c1:=lM (o:= .loop .busy none (kz x b bq bm br bl by_) [16] ir eP dn) y gp
  have YQ:Has g (hh.put lp (some (.loop .busy none (kz x b bq bm br bl by_) [16] ir eP dn))):=fun k w e=>c1.2.2 _ _ (fun e'=>by have:=VB _ _ e;omega) (ag _ _ e)
  have pl:P' lp:=(pp lp).2 (by simp)
  cases hc:(gU q (cf q l s0 l.length 0 (([(⟨0,q.ai,q.af⟩:Gate)])++r)).length ((cf q l s0 l.length 0 (([(⟨0,q.ai,q.af⟩:Gate)])++r)).length - 1) 1 (ef (cf q l s0 l.length 0 (([(⟨0,q.ai,q.af⟩:Gate)])++r)).length ((cf q l s0 l.length 0 (([(⟨0,q.ai,q.af⟩:Gate)])++r)).length - 1) 1 (cf q l s0 l.length 0 (([(⟨0,q.ai,q.af⟩:Gate)])++r)))) with
  | none=>
    obtain ⟨iN,h2,ev,y2,n2,a2⟩:=PN (d:=d) (b:=b) (bq:=bq) (bm:=bm) (br:=br) (bl:=bl) (by_:=by_) (lp:=lp) x c1.1 (az.mono YQ hq) (hl.has YQ) (hr.has YQ) Ej YN hg (c1.2.2 _ _ o! gq) (c1.2.2 _ _ o! gm) (c1.2.2 _ _ o! gr) (c1.2.2 _ _ o! gl) (c1.2.2 _ _ o! gy) dd hc
    have e:=HF (d:=d+8) (args:=[.int .u64 s0]) (jump:=none) gp rfl ((J0 x b bq bm br bl by_ (.int .u64 s0))▸JZ x b bq bm br bl by_ lp s0 hh) gp ev (.inl ⟨rfl,rfl⟩) (a2 _ _ c1.2.1)
    have c3:=lM (o:= .loop .ready none (kz x b bq bm br bl by_) [16] ir eP dn) y2 (a2 _ _ c1.2.1)
    have K:∀k w,k≠lp→hh.get k=some w→(h2.put lp (some (.loop .ready none (kz x b bq bm br bl by_) [16] ir eP dn))).get k=some w:=fun k w n e=>c3.2.2 _ _ n (a2 _ _ (c1.2.2 _ _ n e))
    refine ⟨_,P',e,c3.1,n2,⟨P0,?_,fun k w e=>K _ _ (fun e'=>by have:=VB _ _ e;omega) (ag _ _ e),Nat.le_trans gn n2,Nat.lt_of_lt_of_le gx n2,K _ _ o! gq,K _ _ o! gm,K _ _ o! gr,K _ _ o! gl,K _ _ o! gy,c3.2.1,nP,pp⟩,fun _=> .inl,fun k w n e=>K k w (fun e'=>n (e'▸pl)) e⟩
    rw[List.filterMap_append,List.filterMap_cons_none (show J1 q l r [AV.int .u64 s0]=none by show (cZ q l r s0).map _=_;rw[cZ,hc];rfl),List.filterMap_nil,List.append_nil]
    exact yl.stay i0 c3.1 n2 fun k w p e=>K k w (nP k p).2.2.2.2.2.2 e
  | some w=>
    have ht:cZ q l r s0=some (gV q ((cf q l s0 l.length 0 (([(⟨0,q.ai,q.af⟩:Gate)])++r)).length - 1) 0 w):=by rw[cZ,hc];rfl
    have np:∀{k},(k=bq∨k=bm∨k=br∨k=bl∨k=by_∨k=lp)→¬P0 k:=fun {k} c p=>by have:=nP k p;omega
    obtain ⟨iN,h2,P2,ev,y2,n2,i2,p2,l2⟩:=PX (d:=d) (b:=b) (bq:=bq) (bm:=bm) (br:=br) (bl:=bl) (by_:=by_) (lp:=lp) x c1.1 (az.mono YQ hq) (hl.has YQ) (hr.has YQ) Ej YN hg (c1.2.2 _ _ o! gq) (c1.2.2 _ _ o! gm) (c1.2.2 _ _ o! gr) (c1.2.2 _ _ o! gl) (c1.2.2 _ _ o! gy) dd hc yl (Nat.lt_of_le_of_lt (List.length_filterMap_le _ _) hLL) (yl.stay i0 c1.1 (Nat.le_refl _) fun k w p e=>c1.2.2 _ _ (nP k p).2.2.2.2.2.2 e) (fun {hk p op} e=>iW ht e) (np (by simp)) (np (by simp)) (np (by simp)) (np (by simp)) (np (by simp))
    have e:=HF (d:=d+8) (args:=[.int .u64 s0]) (jump:=none) gp rfl ((J0 x b bq bm br bl by_ (.int .u64 s0))▸JZ x b bq bm br bl by_ lp s0 hh) gp ev (.inl ⟨rfl,rfl⟩) (l2 _ _ (np (by simp)) c1.2.1)
    have c3:=lM (o:= .loop .ready none (kz x b bq bm br bl by_) [16] ir eP dn) y2 (l2 _ _ (np (by simp)) c1.2.1)
    have K:∀k w,k≠lp→¬P0 k→hh.get k=some w→(h2.put lp (some (.loop .ready none (kz x b bq bm br bl by_) [16] ir eP dn))).get k=some w:=fun k w n n' e=>c3.2.2 _ _ n (l2 _ _ n' (c1.2.2 _ _ n e))
    have T:∀{k w},hh.get k=some w→k<hh.nx:=fun e=>y _ _ e
    have t1:=T gq;have t2:=T gm;have t3:=T gr;have t4:=T gl;have t5:=T gy
    have nP2:∀k,P2 k→g.get k=none∧k≠bq∧k≠bm∧k≠br∧k≠bl∧k≠by_∧k≠lp:=fun k p=>by
     rcases p2 k p with h | h
     · exact nP k h
     · have h:hh.nx≤k:=h
       exact ⟨yg VB o!,by omega⟩
    refine ⟨_,fun k=>P2 k∨(∃w,g.get k=some w)∨k=bq∨k=bm∨k=br∨k=bl∨k=by_∨k=lp,e,c3.1,n2,⟨P2,?_,fun k w e=>K _ _ (fun e'=>by have:=VB _ _ e;omega) (fun p=>by have:=(nP k p).1;rw[e] at this;cases this) (ag _ _ e),Nat.le_trans gn n2,Nat.lt_of_lt_of_le gx n2,K _ _ o! (np (by simp)) gq,K _ _ o! (np (by simp)) gm,K _ _ o! (np (by simp)) gr,K _ _ o! (np (by simp)) gl,K _ _ o! (np (by simp)) gy,c3.2.1,nP2,fun _=>Iff.rfl⟩,fun k p=>?_,fun k w n e=>K k w (fun e'=>n (e'▸pl)) (fun p=>n ((pp k).2 (.inl p))) e⟩
    · rw[List.filterMap_append,List.filterMap_cons_some (show J1 q l r [AV.int .u64 s0]=some (s0,gV q ((cf q l s0 l.length 0 (([(⟨0,q.ai,q.af⟩:Gate)])++r)).length - 1) 0 w) by show (cZ q l r s0).map _=_;rw[ht];rfl),List.filterMap_nil]
      exact yl.stay i2 c3.1 (Nat.le_refl _) fun k w p e=>c3.2.2 _ _ (nP2 k p).2.2.2.2.2.2 e
    · rcases p with p | p
      · exact (p2 k p).imp (fun h=>(pp k).2 (.inl h)) id
      · exact .inl ((pp k).2 (.inr p))
def YR:Code→Code
 | .seq a _=>a
 | c=>c
def X3:Code→Code
 | .seq _ b=>b
 | c=>c
def VC:Code:=YR mM
def VD:Code:=YR (X3 mM)
theorem Lu:mM= .seq VC (.seq VD (.block 0 (.rangeFunc (.tmp 15) #[16] ir eP))):=by kernel_rfl
theorem Ev.PZ {call:aW} {i:Nat} {b:Code} {s s':St} (h:Ev env call b s .normal s'):Ev env call (.block i b) s .normal s':=by
 obtain ⟨n0,h3⟩:=h
 refine ⟨n0+1,fun n hn=>?_⟩
 obtain ⟨k,rfl⟩:∃k,n=k+1:=⟨n - 1,by omega⟩
 rw[ya,h3 k o!]
 rfl
theorem Ub {d:Nat} {b bn bm:Nat} {n m:Int} {ok:List AV→Prop} {I:List (List AV)→(Nat→Prop)→au→Prop} (yl:Yl (dw (d+2)) b ok I) (back:∀{L L' P P' hh hk},I L P hh→I L' P' hk→Has hh hk→I L' P hh) (iW:∀s:Nat,(s:Int)<oq .u64 1 n→decide (iU ((s:Nat):Int)=m)=true→ok [AV.int .u64 ((s:Nat):Int)]) (h0:0≤n) (hn:n≤8) {P:Nat→Prop} {hh:au} (a_:Tidy hh) (gn:hh.get bn=some (.cells [Zi n] 3 false)) (gm:hh.get bm=some (.cells [Zi m] 3 false)) (hi:I [] P hh) (TV:¬P bn) (TW:¬P bm):
 ∃hk P',dw (d+3) (.fn 70) [.cr b,.ptr bn 0,.ptr bm 0] hh= .ret (.tuple []) hk∧Tidy hk∧hh.nx≤hk.nx∧I (rb m (oq .u64 1 n).toNat 0) P' hk∧(∀j,P' j→P j∨hh.nx≤j)∧Left P hh hk:=by
 obtain ⟨hk,h',P',e,y,n1,i,p,lf,q⟩:=XI yl iW h0 hn a_ gn gm hi TV TW
 rcases q with rfl | ⟨rfl,A⟩
 · exact ⟨_,P',e,y,n1,i,p,lf⟩
 · exact ⟨_,P,e,a_,Nat.le_refl _,back hi i A,fun _=> .inl,Left.refl _ _⟩
theorem P3 {I:List (Int×List Gate)→(Nat→Prop)→au→Prop} (back:∀{L L' P P' hh hk},I L P hh→I L' P' hk→Has hh hk→I L' P hh) {g:au} {q:aw} {l:List aB} {r:List Gate} {m:Int} {lv rv:AV} {b bq bm br bl by_ lp:Nat} {x:Nat→AV} {dn:Nat} {L L':List (List AV)} {P P':Nat→Prop} {hh hk:au} (a:ExI I g q l r m lv rv b bq bm br bl by_ lp x dn L P hh) (a':ExI I g q l r m lv rv b bq bm br bl by_ lp x dn L' P' hk) (A:Has hh hk):ExI I g q l r m lv rv b bq bm br bl by_ lp x dn L' P hh:=by
 obtain ⟨P0,i0,w⟩:=a
 obtain ⟨P1,i1,_⟩:=a'
 exact ⟨P0,back i0 i1 A,w⟩
def jj (q:aw) (l:List aB) (r:List Gate) (m:Int):List (Int×List Gate):=(rb m (oq .u64 1 ((q.ao.length:Nat):Int)).toNat 0).filterMap (J1 q l r)
theorem aa4 {d:Nat} {g h:au} {q:aw} {l:List aB} {r:List Gate} {m:Int} {lv rv:AV} {b bq bm br bl:Nat} (VB:Tidy g) (hqg:az.ok g q) (hlg:aQ g lv l) (hrg:aQ g rv r) (Ej:l.length≤12) (YN:r.length≤1) (hq8:q.ao.length≤8) (WX:∀k,k<l.length→0≤(l.g k).aC∧(l.g k).aC<(q.ao.length:Int)) (dd:bq<bl∧bl<bm∧bm<br) (gb:g.nx≤bq) (cj:Tidy h) (ag:Has g h) (ngh:g.nx≤h.nx) (gq:h.get bq=some (.cells (az.c q) 26 false)) (gm:h.get bm=some (.cells [Zi m] 3 false)) (gr:h.get br=some (.cells [rv] 69 false)) (gl:h.get bl=some (.cells [lv] 27 false))
 {ok:au→List AV→(Int×List Gate)→Prop} {I:List (Int×List Gate)→(Nat→Prop)→au→Prop} (yl:YlH (dw (d+8)) b ok I) (back:∀{L L' P P' hh hk},I L P hh→I L' P' hk→Has hh hk→I L' P hh) (iW:∀{s0:Int} {w:List Gate} {hk:au} {p:Nat} {op:Bool},cZ q l r s0=some w→hk.get p=some (.cells (List.flatMap (az.c (α:=Gate)) w) 66 false)→ok hk [.int .u64 s0,.slice p 0 (sD q l r s0) (sD q l r s0) op] (s0,w))
 {P:Nat→Prop} (hi:I [] P h) (nP:∀k,P k→g.get k=none∧k≠bq∧k≠bm∧k≠br∧k≠bl):
 ∃hk P',dw (d+11) (.fn 44) [.cr b,.ptr bq 0,.ptr bm 0,.ptr br 0,.ptr bl 0] h= .ret (.tuple []) hk∧Tidy hk∧h.nx≤hk.nx∧I (jj q l r m) P' hk∧(∀j,P' j→P j∨h.nx≤j)∧Left P h hk:=by
 have hq:=az.mono ag hqg
 have T_q:=cj _ _ gq
 have T_m:=cj _ _ gm
 have T_r:=cj _ _ gr
 have T_l:=cj _ _ gl
 obtain ⟨h1,b9,cL,kt,aO,cz⟩:=jS cj (aR.cells [(AV.cr b)] 86 false)
 have ev0:=pk (d+10) VC ((AV.cr b)::(AV.ptr bq 0)::(AV.ptr bm 0)::(AV.ptr br 0)::(AV.ptr bl 0)::ka 45) h .normal h1 (NN b9 (fun i=>(AV.ptr i 0))<|ZZ) (by kernel_rfl)
 have ln2:eF (some (.slice 45)) (some q.aA)=some (AV.int .i64 ((q.ao.length:Nat):Int)):=hq.2.len
 obtain ⟨bn4,bm5,h3,Xr,hQ,uJ,hD,VE,VF,aeT,aeU⟩:=adG (d:=d+8) (n:=((q.ao.length:Nat):Int)) (m:=m) cL
 have ev1:=pk (d+10) VD ((AV.cr b)::(AV.ptr bq 0)::(AV.ptr bm 0)::(AV.ptr br 0)::(AV.ptr bl 0)::(AV.ptr h.nx 0)::ka 44) h1 .normal h3 (CC<|MM (aL 24 6 q.aA (cz _ _ gq) (by kernel_rfl))<|VV ln2<|MM (aL 3 0 (AV.int .i64 m) (cz _ _ gm) (by kernel_rfl))<|EE Xr<|ZZ) (by kernel_rfl)
 have T4:=hQ _ _ VE
 have T5:=hQ _ _ VF
 obtain ⟨h4,n4⟩:=kr (h:=h3) .tJ
 have y4:=fM hQ n4
 have x4:=kq n4
 let TS:List AV:=((AV.cr b)::(AV.ptr bq 0)::(AV.ptr bm 0)::(AV.ptr br 0)::(AV.ptr bl 0)::(AV.ptr h.nx 0)::AV.undef::AV.undef::AV.undef::AV.undef::AV.undef::(AV.ptr bq 6)::q.aA::(AV.int .i64 ((q.ao.length:Nat):Int))::(AV.int .i64 m)::(AV.func 70 [] [(AV.ptr bn4 0),(AV.ptr bm5 0)])::ka 34)
 have eTS:TS=kz (fun k=>TS.getD k .undef) b bq bm br bl h.nx:=by kernel_rfl
 obtain ⟨h5,n5⟩:=kr (h:=h4) (.loop .ready none TS (#[16]:Array Tmp).toList ir eP h3.nx)
 have y5:=fM y4 n5
 have x5:=kq n5
 have K5:∀k w,h3.get k=some w→h5.get k=some w:=fun k w e=>eZ y4 n5 (eZ hQ n4 e)
 have K1:∀k w,h.get k=some w→h5.get k=some w:=fun k w e=>K5 k w (hD _ _ (cz _ _ e))
 have g_y:h5.get h.nx=some (.cells [.cr b] 86 false):=K5 _ _ (hD _ _ aO)
 have aa5:∀k,P k→k<h.nx:=yl.aM hi
 have hi5:ExI I g q l r m lv rv b bq bm br bl h.nx h4.nx (fun k=>TS.getD k .undef) h3.nx [] (fun k=>P k∨(∃w,g.get k=some w)∨k=bq∨k=bm∨k=br∨k=bl∨k=h.nx∨k=h4.nx) h5:=
  ⟨P,yl.stay hi y5 o! fun k w _ e=>K1 k w e,fun k w e=>K1 k w (ag _ _ e),by omega,by omega,K1 _ _ gq,K1 _ _ gm,K1 _ _ gr,K1 _ _ gl,g_y,by rw[←eTS];exact iD n5,fun k p=>⟨(nP k p).1,by have:=nP k p;have:=aa5 k p;omega⟩,fun _=>Iff.rfl⟩
 have ylx:=X2 (d:=d) (g:=g) (q:=q) (l:=l) (r:=r) (m:=m) (lv:=lv) (rv:=rv) (b:=b) (bq:=bq) (bm:=bm) (br:=br) (bl:=bl) (by_:=h.nx) (lp:=h4.nx) (fun k=>TS.getD k .undef) h3.nx VB hqg hlg hrg Ej YN WX o! gb o! yl iW
 have nb:∀j,h1.nx≤j→j<h4.nx→¬(P j∨(∃w,g.get j=some w)∨j=bq∨j=bm∨j=br∨j=bl∨j=h.nx∨j=h4.nx):=by
  rintro j c1 c2 (p | ⟨w,p⟩ | p)
  · have:=aa5 j p;omega
  · have:=VB _ _ p;omega
  · omega
 obtain ⟨h6,P6,e6,y6,x6,i6,p6,l6⟩:=Ub (d:=d+7) (n:=((q.ao.length:Nat):Int)) (m:=m) ylx (fun a b c=>P3 (I:=I) (fun a b c=>back a b c) a b c) (fun s _ _=>⟨(s:Int),rfl⟩) o! o! y5 (K5 _ _ VE) (K5 _ _ VF) hi5 (nb _ o! o!) (nb _ o! o!)
 obtain ⟨P0,i0,ag6,gn6,gx6,gq6,gm6,gr6,gl6,gy6,gp6,nP6,pp6⟩:=i6
 have er:=FG (E:=env) (call:=dw (d+10)) (ts:=TS) (ds:=[]) (f:= .tmp 15) (ps:= #[16]) (aS:=ir) (bd:=eP) (e:= .normal) rfl n4 n5 e6 gp6 (by intro c;cases c) rfl
 have ev:=Lu▸Ev.seq (An (L':=(AV.cr b)::(AV.ptr bq 0)::(AV.ptr bm 0)::(AV.ptr br 0)::(AV.ptr bl 0)::(AV.ptr h.nx 0)::ka 44) (by kernel_rfl) ev0) (Ev.seq (An (L':=TS) (by kernel_rfl) ev1) (Ev.PZ er))
 have l6':∀k w,h3.get k=some w→h1.nx≤k→h6.get k=some w:=fun k w e c=>l6 _ _ (nb k c (by have:=hQ _ _ e;omega)) (K5 _ _ e)
 have gd:h6.get h3.nx=some .tJ:=l6 _ _ (nb _ o! o!) (eZ y4 n5 (iD n4))
 have c7:=lM (o:= .loop .exhausted none (kz (fun k=>TS.getD k .undef) b bq bm br bl h.nx) [16] ir eP h3.nx) y6 gp6
 have fn:=OW (args:=[.cr b,.ptr bq 0,.ptr bm 0,.ptr br 0,.ptr bl 0]) (L:=[h3.nx]) (v:= .tuple []) Try.func44 aaX (by kernel_rfl) (.inl rfl) ev (by simp) (fun k hk=>by rw[List.mem_singleton.1 hk];exact c7.2.2 _ _ o! gd) rfl
 obtain ⟨hk,ek,cs⟩:=jn (M0:=M0) rfl fn
 have KF:∀k w,k≠h4.nx→k≠h3.nx→h6.get k=some w→(shut [h3.nx] (h6.put h4.nx (some (.loop .exhausted none (kz (fun k=>TS.getD k .undef) b bq bm br bl h.nx) [16] ir eP h3.nx)))).get k=some w:=fun k w c1 c2 e=>by
  rw[oo (by simpa using c2)];exact c7.2.2 _ _ c1 e
 have yF:Tidy (shut [h3.nx] (h6.put h4.nx (some (.loop .exhausted none (kz (fun k=>TS.getD k .undef) b bq bm br bl h.nx) [16] ir eP h3.nx)))):=fun k w gw=>by
  rw[rN]
  by_cases c:k=h3.nx
  · subst c
    rw[shut,shut,au.bF] at gw;cases gw
  · rw[oo (by simpa using c)] at gw;exact c7.1 _ _ gw
 have nF:h.nx≤(shut [h3.nx] (h6.put h4.nx (some (.loop .exhausted none (kz (fun k=>TS.getD k .undef) b bq bm br bl h.nx) [16] ir eP h3.nx)))).nx:=by
  rw[rN];show h.nx≤h6.nx;omega
 have nd:∀k,P0 k→k≠h3.nx:=fun k p c=>by
  subst c
  rcases p6 _ ((pp6 _).2 (.inl p)) with c | c
  · exact nb _ o! o! c
  · omega
 have iF:=yl.stay i0 yF (by rw[rN];exact Nat.le_refl _) fun k w p e=>KF k w (nP6 k p).2.2.2.2.2.2 (nd k p) e
 have pF:∀j,P0 j→P j∨h.nx≤j:=fun j p=>by
  have np:=nP6 j p
  rcases p6 j ((pp6 j).2 (.inl p)) with (c | ⟨w,c⟩ | c) | c
  · exact .inl c
  · have:=np.1;rw[c] at this;cases this
  · omega
  · exact .inr o!
 have lF:Left P h (shut [h3.nx] (h6.put h4.nx (some (.loop .exhausted none (kz (fun k=>TS.getD k .undef) b bq bm br bl h.nx) [16] ir eP h3.nx)))):=fun k w n e=>by
  have T:=cj _ _ e
  refine KF k w o! o! ?_
  by_cases c0:∃w',g.get k=some w'
  · obtain ⟨w',c0⟩:=c0
    have:=ag _ _ c0
    rw[e] at this
    rw[ag6 _ _ c0,this]
  · by_cases c1:k=bq
    · subst c1;rw[gq6,←gq,e]
    · by_cases c2:k=bm
      · subst c2;rw[gm6,←gm,e]
      · by_cases c3:k=br
        · subst c3;rw[gr6,←gr,e]
        · by_cases c4:k=bl
          · subst c4;rw[gl6,←gl,e]
          · refine l6 _ _ ?_ (K1 _ _ e)
            rintro (p | p | p)
            · exact n p
            · exact c0 p
            · omega
 rcases cs with rfl | ⟨rfl,A⟩
 · exact ⟨_,P0,ek,yF,nF,iF,pF,lF⟩
 · exact ⟨_,P,ek,cj,Nat.le_refl _,back hi iF A,fun _=> .inl,Left.refl _ _⟩
def ow:Code:=(Try.f76.body).getD .skip
theorem sE:Try.f76.body=some ow:=by kernel_rfl
def xQ:Code:=(cX ow).getD 0 .skip
def dK (s:List Gate) (P:Gate→Bool):Nat→Nat→Option (Int)
 | 0,_=>none
 | gB+1,i0=>(bif (P (s.g i0)) then some ((i0:Nat):Int) else dK s P gB (i0+1))
theorem kA {d:Nat} {h:au} (sV:AV) (g:FuncId) (cap:List AV) (s:List Gate) (P:Gate→Bool) (eH:aQ h sV s) (hP:∀y∈s,∀hh,Tidy hh→Has h hh→dw d (.fn g) (.agg (az.c y)::cap) hh= .ret (.bool (P y)) hh):∀(k_ i_:Nat) (_:i_+k_=s.length) (x:Nat→AV) (hh:au) (a_:Tidy hh) (bN:Has h hh),bh (dw (d)) xQ ⟨(sV::(AV.func g [] cap)::rx x 2 5 ((Zn s.length)::(Zn i_)::rx x 9 10 [])),hh,[],.no⟩ (.exit 0) hh (fun y=>(sV::(AV.func g [] cap)::rx y 2 5 ((Zn s.length)::rx y 8 11 []))) (fun r y=>(sV::(AV.func g [] cap)::(y 2)::(y 3)::(Zi r)::(y 5)::(y 6)::(Zn s.length)::rx y 8 11 [])) (dK s P k_ i_)
 | 0,i0,rR,x,hh,a_,bN=>by
   have mD:=eH.small
   have q1:(decide (((i0:Nat):Int)<((s.length:Nat):Int)))=false:=d!
   exact bh.out rfl (pk (d) _ _ hh _ hh (VV (cS 3 false false .i64 ((i0:Nat):Int) ((s.length:Nat):Int))<|BB q1<|ZZ) k!) (Grow.refl a_) k!
 | gB+1,i0,rR,x,hh,a_,bN=>by
   have mD:=eH.small
   have q1:(decide (((i0:Nat):Int)<((s.length:Nat):Int)))=true:=d!
   obtain ⟨p3,q4,kY⟩:=(eH.has bN).elem (i:=i0) o!
   have mU:dL env (some (.slice 66)) (some sV) (some (Zn i0))=some (AV.ptr p3 q4):=kY
   have AJ:bw env hh 66 (AV.ptr p3 q4)=some (AV.agg [(Zi (s.g i0).time),(Zi (s.g i0).aj),(Zi (s.g i0).ah)]):=(eH.has bN).load o! kY
   have k6:=hP (s.g i0) (jT o!) hh a_ bN
   rcases Bool.eq_false_or_eq_true (P (s.g i0)) with f1 | f1
   · exact bh.ret ((i0:Nat):Int) (by simp only[dK,f1,ax,ar]) (pk (d) _ _ hh _ hh (VV (cS 3 false false .i64 ((i0:Nat):Int) ((s.length:Nat):Int))<|BB q1<|CN 5<|VV mU<|MM AJ<|EE k6<|BB f1<|CN 2<|ZZ) k!) (Grow.refl a_) k!
   · have u8:=ks 3 false true i0 1 o!
     exact bh.round (by simp only[dK,f1,ax,ar]) (pk (d) _ _ hh _ hh (VV (cS 3 false false .i64 ((i0:Nat):Int) ((s.length:Nat):Int))<|BB q1<|CN 5<|VV mU<|MM AJ<|EE k6<|BV f1 u8<|CC<|ZZ) k!) (Grow.refl a_) _ k! (fun x=>kA sV g cap s P eH hP gB (i0+1) o! x hh a_ bN)
def bz (s:List Gate) (P:Gate→Bool):Int:=(match (dK s P s.length 0) with | none=>(-1) | some Lf=>Lf)
theorem A8 {d:Nat} {h:au} {sV:AV} {g:FuncId} {cap:List AV} (s:List Gate) (P:Gate→Bool) (BX:aQ h sV s) (hP:∀y∈s,∀hh,Tidy hh→Has h hh→dw d (.fn g) (.agg (az.c y)::cap) hh= .ret (.bool (P y)) hh) (cj:Tidy h):dw (d+1) (.fn 76) [sV,(AV.func g [] cap)] h= .ret (Zi (bz s P)) h:=by
 have JI:=BX.small
 have vU:eF (some (.slice 66)) (some sV)=some (Zn s.length):=BX.len
 cases jX:dK s P s.length 0 with
 | none=>
   obtain ⟨Xc,h3,jo,mE⟩:=bh.n jX (kA (d:=d) (h:=h) sV g cap s P BX hP s.length 0 o! (fun k_=>((sV::(AV.func g [] cap)::AV.undef::AV.undef::(Zi 0)::AV.undef::sV::(Zn s.length)::(Zi 0)::ka 10):List AV).getD k_ AV.undef) h cj (Has.refl _))
   have hQ:=mE.y
   have uJ:h.nx≤h3.nx:=mE.n
   have jq:Has h h3:=mE.a
   have e:bz s P=(-1):=by simp only[bz,jX,ax,ar]
   rw[e]
   exact aF rfl (bu Try.func76 sE rfl (.inr rfl) (pk (d) _ _ h _ h3 (CN 2<|VV vU<|CC<|LL jo<|CC<|ZZ) k!) k!) jq rfl
 | some Lf=>
   obtain ⟨Xc,h3,jo,mE⟩:=bh.r jX (kA (d:=d) (h:=h) sV g cap s P BX hP s.length 0 o! (fun k_=>((sV::(AV.func g [] cap)::AV.undef::AV.undef::(Zi 0)::AV.undef::sV::(Zn s.length)::(Zi 0)::ka 10):List AV).getD k_ AV.undef) h cj (Has.refl _))
   have hQ:=mE.y
   have uJ:h.nx≤h3.nx:=mE.n
   have jq:Has h h3:=mE.a
   have e:bz s P=Lf:=by simp only[bz,jX,ax,ar]
   rw[e]
   exact aF rfl (bu Try.func76 sE rfl (.inr rfl) (pk (d) _ _ h _ h3 (CN 2<|VV vU<|CC<|LL jo<|ZZ) k!) k!) jq rfl
def IA:Code:=(Try.f77.body).getD .skip
theorem Uc:Try.f77.body=some IA:=by kernel_rfl
def eJ (o:Gate) (t:Int):Bool:=(decide (o.time=t))
theorem Ud {d:Nat} {h:au} (o:Gate) (t:Int) (tB:Nat) (h_o:az.ok h o) (g_t:h.get tB=some (aR.cells [(Zi t)] 3 false)) (cj:Tidy h):dw (d+1) (.fn 77) [(AV.agg [(Zi o.time),(Zi o.aj),(Zi o.ah)]),(Pt tB)] h= .ret (AV.bool (eJ o t)) h:=by
 obtain ⟨h1,b9,cL,kt,aO,cz⟩:=jS cj (aR.cells [(Zi o.time),(Zi o.aj),(Zi o.ah)] 66 false)
 have bQ:Has h h1:=cz
 have e:eJ o t=(decide (o.time=t)):=by simp only[eJ,ax,ar]
 rw[e]
 exact aF rfl (bu Try.func77 Uc rfl (.inr rfl) (pk (d) _ _ h _ h1 (NN b9 (fun i=>(Pt i))<|CN 2<|MM (aL 3 0 (Zi o.time) aO k!)<|MM (aL 3 0 (Zi t) (cz _ _ g_t) k!)<|VV (dZ 3 false false .i64 o.time t)<|CC<|ZZ) k!) k!) bQ rfl
def Lv:Code:=(Try.f49.body).getD .skip
theorem X4:Try.f49.body=some Lv:=by kernel_rfl
def iV (c:List Gate) (t:Int):Span:=(⟨(c.g (bz c (fun y=>eJ y t)).toNat).aj,(c.g (bz c (fun y=>eJ y t)).toNat).ah⟩:Span)
theorem X5 {d:Nat} {h:au} {cV:AV} (c:List Gate) (t:Int) (Vo:aQ h cV c) (vb:0≤bz c (fun y=>eJ y t)) (T8:bz c (fun y=>eJ y t)<(c.length:Int)) (cj:Tidy h):dw (d+3) (.fn 49) [cV,(Zi t)] h= .ret (AV.agg [(Zi (iV c t).aM),(Zi (iV c t).aD)]) h:=by
 have aeV:=Vo.small
 obtain ⟨h1,b9,cL,kt,aO,cz⟩:=jS cj (aR.cells [(Zi t)] 3 false)
 have bQ:Has h h1:=cz
 obtain ⟨h2,nH,iH,Du,fN,gv⟩:=jS cL (aR.cells [(Zi 0),(Zi 0)] 23 false)
 have im:Has h h2:=bQ.trans gv
 have k3:=A8 (d:=d+1) c (fun y=>eJ y t) (Vo.has im) (fun y hy hh yy aa=>Ud (d:=d) y t h.nx (az.mono aa ((Vo.has im).Dp y hy)) (aa _ _ (gv _ _ aO)) yy) iH
 obtain ⟨p5,q6,P4⟩:=Vo.elem (i:=(bz c (fun y=>eJ y t)).toNat) o!
 have xJ:dL env (some (.slice 66)) (some cV) (some (Zi (bz c (fun y=>eJ y t))))=some (AV.ptr p5 q6):=by rw[show ((bz c (fun y=>eJ y t)):Int)=(((bz c (fun y=>eJ y t)).toNat:Nat):Int) by omega];exact P4
 have Vv:bw env h2 23 (AV.ptr p5 (q6+1))=some (AV.agg [(Zi (c.g (bz c (fun y=>eJ y t)).toNat).aj),(Zi (c.g (bz c (fun y=>eJ y t)).toNat).ah)]):=(Vo.has im).aak (t:=23) (j:=1) (n:=2) o! P4 k! k! (by decide) rfl
 obtain ⟨h8,adT,T_,afP,adU,aa7⟩:=sa (t:=23) (n:=2) (i:=h1.nx) (L:=[(Zi (c.g (bz c (fun y=>eJ y t)).toNat).aj),(Zi (c.g (bz c (fun y=>eJ y t)).toNat).ah)]) iH fN k! rfl rfl (by simp only[AV.cells,List.all_cons,List.all_nil,Bool.and_true,Bool.and_self,ib,fL,ic,ie,ei,kR,kS,kT,kU,kV,ig])
 have Ix:Has h h8:=Has.bG im aa7 cj o!
 have e:iV c t=(⟨(c.g (bz c (fun y=>eJ y t)).toNat).aj,(c.g (bz c (fun y=>eJ y t)).toNat).ah⟩:Span):=by simp only[iV,ax,ar]
 rw[e]
 exact aF rfl (kX (a:=4) (t:=23) (i:=h1.nx) Try.func49 X4 rfl (.inr rfl) (pk (d+2) _ _ h _ h8 (NN b9 (fun i=>(Pt i))<|NN nH (fun i=>(Pt i))<|CN 3<|EE k3<|VV xJ<|CC<|MM Vv<|SS adT<|ZZ) k!) k! (oh adU k!)) Ix rfl
end
end Go.Proofs.aK
