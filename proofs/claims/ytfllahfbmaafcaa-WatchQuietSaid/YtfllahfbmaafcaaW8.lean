import Derived.Test.YtfllahfbmaafcaaW0
import Derived.Test.YtfllahfbmaafcaaW7
import Derived.Test.YtfllahfbmaafcaaW2
import Derived.Test.YtfllahfbmaafcaaW4
import Derived.Test.YtfllahfbmaafcaaA8
import Derived.Test.YtfllahfbmaafcaaW3
import Derived.Test.YtfllahfbmaafcaaW5
namespace Go.Proofs.aG
open Go.Proofs Ab
noncomputable section
set_option maxRecDepth 100000
set_option maxHeartbeats 4000000
set_option linter.unusedVariables false
set_option linter.unusedSimpArgs false
def Jj:Code:=(Try.f71.body).getD .skip
theorem Tf:Try.f71.body=some Jj:=by kernel_rfl
def jX (x_:Int):Int:=(tg x_)
theorem Jk {d:Nat} {h:aw} (x_:Int) (ch:Tidy h):dh (d+2) (.fn 71) [(AV.int .u64 x_)] h= .ret (Zi (jX x_)) h:=by
 have k1:=LG (d:=d) x_ ch
 have e:jX x_=(tg x_):=by simp only[jX,ak,ah]
 rw[e]
 exact aC rfl (bh Try.func71 Tf rfl (.inr rfl) (pk (d+1) _ _ h _ h (CC<|FF<|CC<|EE k1<|CC<|ZZ) k!) k!) (Has.refl _) rfl
structure Yl (call:bj) (b:Nat) (ok:List AV→Prop) (I:List (List AV)→(Nat→Prop)→aw→Prop):Prop where
 aU:∀{L P hh},I L P hh→∀k,P k→k<hh.nx
 stay:∀{L P hh hk},I L P hh→Tidy hk→hh.nx≤hk.nx→(∀k w,P k→hh.get k=some w→hk.get k=some w)→I L P hk
 next:∀{L a P hh},L.length<1000→ok a→I L P hh→Tidy hh→∃hk P',call (.uV b) a hh= .ret (.bool true) hk∧Tidy hk∧hh.nx≤hk.nx∧I (L++[a]) P' hk∧(∀k,P' k→P k∨hh.nx≤k)∧∀k w,¬P k→hh.get k=some w→hk.get k=some w
def Left (P:Nat→Prop) (h hk:aw):Prop:=∀k w,¬P k→h.get k=some w→hk.get k=some w
theorem Left.refl (P:Nat→Prop) (h:aw):Left P h h:=fun _ _ _ q=>q
def ze:Code:=(Try.f70.body).getD .skip
theorem aa9:Try.f70.body=some ze:=by kernel_rfl
def Cw:Code:=(cu ze).getD 0 .skip
theorem Tg {n:Int} (h0:0≤n) (h:n≤8):0≤qf .u64 1 n∧qf .u64 1 n≤1000:=by
 obtain ⟨k,rfl⟩:∃k:Nat,n=k:=⟨n.toNat,by omega⟩
 have:∀k:Nat,k<9→0≤qf .u64 1 (k:Nat)∧qf .u64 1 (k:Nat)≤1000:=by decide+kernel
 exact this k o!
def th (m:Int):Nat→Nat→List (List AV)
 | 0,_=> []
 | k+1,s=>bif decide (jX ((s:Nat):Int)=m) then [AV.int .u64 ((s:Nat):Int)]::th m k (s+1) else th m k (s+1)
theorem zf {d:Nat} {b bn bm:Nat} {n m N:Int} {ok:List AV→Prop} {I:List (List AV)→(Nat→Prop)→aw→Prop} (yl:Yl (dh (d+2)) b ok I) (jI:∀s:Nat,(s:Int)<N→decide (jX ((s:Nat):Int)=m)=true→ok [AV.int .u64 ((s:Nat):Int)]) (hN:N≤1000):∀(k s0:Nat) (L:List (List AV)) (P:Nat→Prop) (x:Nat→AV) (hh:aw) (aL:Tidy hh) (gn:hh.get bn=some (.cells [Zi n] 3 false)) (gm:hh.get bm=some (.cells [Zi m] 3 false)) (hi:I L P hh) (Xa:¬P bn) (Xb:¬P bm),L.length+k≤1000→(s0:Int)+k=N→
 dz (σ:=Unit) (ζ:=Unit) (dh (d+2)) Cw ⟨((AV.cO b)::(Pt bn)::(Pt bm)::rx x 3 3 ((AV.int .u64 N)::(AV.int .u64 ((s0:Nat):Int))::rx x 8 13 [])),hh,[],.no⟩ (.exit 0) hh (fun _ _ y=>rx y 0 21 []) (fun _ _ hk=>∃P',I (L++th m k s0) P' hk∧(∀j,P' j→P j∨hh.nx≤j)∧Left P hh hk) ()
 | 0,s0,L,P,x,hh,aL,gn,gm,hi,Xa,Xb,hLk,mR=>by
   have q1:(decide (((s0:Nat):Int)<N))=false:=d!
   exact dz.out () () rfl (pk (d+2) _ _ hh _ hh (VV (bU 68 false false .u64 ((s0:Nat):Int) N)<|BB q1<|ZZ) k!) aL (Nat.le_refl _) ⟨P,by rw[th,List.append_nil];exact hi,fun _ h=> .inl h,Left.refl _ _⟩ k!
 | k+1,s0,L,P,x,hh,aL,gn,gm,hi,Xa,Xb,hLk,mR=>by
   have T1:=aL _ _ gn
   have T2:=aL _ _ gm
   rcases Bool.eq_false_or_eq_true (decide ((jX ((s0:Nat):Int))=m)) with f | f
   · skip
     have q1:(decide (((s0:Nat):Int)<N))=true:=d!
     have k2:=Jk (d:=d) ((s0:Nat):Int) aL
     have q3:(decide ((jX ((s0:Nat):Int))=m))=true:=f
     obtain ⟨h4,ag5,ag7,Je,ag2,ag8,Xc,Th⟩:=yl.next (L:=L) (P:=P) o! (jI s0 o! f) hi aL
     have u5:cE env .add 68 false true (some (AV.int .u64 ((s0:Nat):Int))) (some (AV.int .u64 1))=some (AV.int .u64 ((s0+1:Nat):Int)):=zO (a:=s0) (b:=1) o!
     have ev:=pk (d+2) Cw ((AV.cO b)::(Pt bn)::(Pt bm)::rx x 3 3 ((AV.int .u64 N)::(AV.int .u64 ((s0:Nat):Int))::rx x 8 13 [])) hh .normal h4 (VV (bU 68 false false .u64 ((s0:Nat):Int) N)<|BB q1<|CN 3<|MM (aK 3 0 (Zi m) gm k!)<|EE k2<|VV (lH 3 false false .i64 (jX ((s0:Nat):Int)) m)<|CC<|BC q3<|BC q3<|BB q3<|AA (.e (.bool true) h4)<|HH ag7<|BC q3<|VV (oV false false q3)<|HH (aK 3 0 (Zi m) gm k!)<|HH (show AV.same 20 (Zi m) (Zi m)=true from aO 19 _ _)<|HH (aK 3 0 (Zi m) gm k!)<|HH (show AV.same 20 (Zi m) (Zi m)=true from aO 19 _ _)<|FF<|VV u5<|CC<|ZZ) k!
     refine dz.round rfl ev o! _ k! (fun x=>dz.Sq (zf yl jI hN k (s0+1) (L++[[AV.int .u64 ((s0:Nat):Int)]]) ag5 x h4 Je (Th _ _ Xa gn) (Th _ _ Xb gm) ag8 (fun h=>(Xc _ h).elim Xa o!) (fun h=>(Xc _ h).elim Xb o!) (by rw[List.length_append,List.length_singleton];omega) o!) fun _ hk hn q=>?_)
     obtain ⟨P',a1,a2,a3⟩:=q
     refine ⟨P',?_,fun j hj=>?_,fun j w hj gw=>a3 _ _ (fun h=>(Xc _ h).elim hj (by have:=aL _ _ gw;omega)) (Th _ _ hj gw)⟩
     · rw[th,f,ak]
       rw[List.append_assoc] at a1;exact a1
     · rcases a2 j hj with h | h
       · exact Xc j h
       · exact .inr o!
   · skip
     have q1:(decide (((s0:Nat):Int)<N))=true:=d!
     have k2:=Jk (d:=d) ((s0:Nat):Int) aL
     have q3:(decide ((jX ((s0:Nat):Int))=m))=false:=f
     have u4:cE env .add 68 false true (some (AV.int .u64 ((s0:Nat):Int))) (some (AV.int .u64 1))=some (AV.int .u64 ((s0+1:Nat):Int)):=zO (a:=s0) (b:=1) o!
     have ev:=pk (d+2) Cw ((AV.cO b)::(Pt bn)::(Pt bm)::rx x 3 3 ((AV.int .u64 N)::(AV.int .u64 ((s0:Nat):Int))::rx x 8 13 [])) hh .normal hh (VV (bU 68 false false .u64 ((s0:Nat):Int) N)<|BB q1<|CN 3<|MM (aK 3 0 (Zi m) gm k!)<|EE k2<|VV (lH 3 false false .i64 (jX ((s0:Nat):Int)) m)<|CC<|BB q3<|BB q3<|BB q3<|BV q3 (uj false q3)<|HH (aK 3 0 (Zi m) gm k!)<|HH (show AV.same 20 (Zi m) (Zi m)=true from aO 19 _ _)<|HH (aK 3 0 (Zi m) gm k!)<|HH (show AV.same 20 (Zi m) (Zi m)=true from aO 19 _ _)<|FF<|VV u4<|CC<|ZZ) k!
     refine dz.round rfl ev o! _ k! (fun x=>dz.Sq (zf yl jI hN k (s0+1) L P x hh aL gn gm hi Xa Xb o! o!) fun _ hk hn q=>?_)
     obtain ⟨P',a1,a2,a3⟩:=q
     exact ⟨P',by rw[th,f,ah];exact a1,a2,a3⟩
theorem aba {d:Nat} {b bn bm:Nat} {n m:Int} {ok:List AV→Prop} {I:List (List AV)→(Nat→Prop)→aw→Prop} (yl:Yl (dh (d+2)) b ok I) (jI:∀s:Nat,(s:Int)<qf .u64 1 n→decide (jX ((s:Nat):Int)=m)=true→ok [AV.int .u64 ((s:Nat):Int)]) (h0:0≤n) (hn:n≤8) {P:Nat→Prop} {hh:aw} (aL:Tidy hh) (gn:hh.get bn=some (.cells [Zi n] 3 false)) (gm:hh.get bm=some (.cells [Zi m] 3 false)) (hi:I [] P hh) (Xa:¬P bn) (Xb:¬P bm):
 ∃hk h' P',dh (d+3) (.fn 70) [.cO b,.ptr bn 0,.ptr bm 0] hh= .ret (.tuple []) hk∧Tidy h'∧hh.nx≤h'.nx∧I (th m (qf .u64 1 n).toNat 0) P' h'∧(∀j,P' j→P j∨hh.nx≤j)∧Left P hh h'∧(hk=h'∨(hk=hh∧Has hh h')):=by
 have u1:cE env .shl 68 true false (some (AV.int .u64 1)) (some (Zi n))=some (AV.int .u64 (qf .u64 1 n)):=Sy 68 true false .u64 .i64 o!
 obtain ⟨_,YO,h2,LB,jH,Lv,ag9,aha,ahb,ad5⟩:=zf (d:=d) (N:=(qf .u64 1 n)) yl jI (Tg h0 hn).2 (qf .u64 1 n).toNat 0 [] P (fun k_=>(((AV.cO b)::(Pt bn)::(Pt bm)::AV.undef::AV.undef::(Zi n)::(AV.int .u64 (qf .u64 1 n))::(AV.int .u64 0)::iW 13):List AV).getD k_ AV.undef) hh aL gn gm hi Xa Xb (by have:=(Tg h0 hn).2;rw[List.length_nil];omega) (by have:=(Tg h0 hn).1;omega)
 have ev:=pk (d+2) ze ((AV.cO b)::(Pt bn)::(Pt bm)::iW 18) hh .normal h2 (MM (aK 3 0 (Zi n) gn k!)<|VV u1<|CC<|LL LB<|ZZ) k!
 obtain ⟨hk,e,q⟩:=iy rfl (bh (v:= .tuple []) Try.func70 aa9 k! (.inl rfl) ev k!)
 exact ⟨hk,h2,ag9,e,jH,Lv,aha,ahb,ad5,q⟩
def Xe:Code:=(Try.f45.body).getD .skip
theorem ahc:Try.f45.body=some Xe:=by kernel_rfl
theorem ahd {d:Nat} {n m:Int} {h:aw} (ch:Tidy h):
 ∃bn bm hk,dh (d+2) (.fn 45) [Zi n,Zi m] h= .ret (.func 70 [] [Pt bn,Pt bm]) hk∧Tidy hk∧h.nx≤hk.nx∧Has h hk∧hk.get bn=some (.cells [Zi n] 3 false)∧hk.get bm=some (.cells [Zi m] 3 false)∧h.nx≤bn∧h.nx≤bm:=by
 obtain ⟨h1,ct,ck,jj,aW,cr⟩:=iX ch (aR.cells [(Zi n)] 3 false)
 obtain ⟨h2,pD,jH,GC,fM,hT⟩:=iX ck (aR.cells [(Zi m)] 3 false)
 exact ⟨_,_,_,qb rfl (bh Try.func45 ahc rfl (.inr rfl) (pk (d+1) _ _ h _ h2 (NN ct (fun i=>(Pt i))<|NN pD (fun i=>(Pt i))<|CN 3<|ZZ) k!) k!) (fun q=>by cases q.2),jH,by omega,(cr.trans hT),hT _ _ aW,fM,by omega,by omega⟩
def LH:Code:=(Try.f48.body).getD .skip
theorem Xf:Try.f48.body=some LH:=by kernel_rfl
def Cx (s:Int) (aD:Int):Bool:=(decide ((af .u64 (aq .u64 s aD) 1)=1))
theorem Xg {d:Nat} {h:aw} (s:Int) (aD:Int) (qV:0≤aD) (ch:Tidy h):dh (d+1) (.fn 48) [(AV.int .u64 s),(Zi aD)] h= .ret (AV.bool (Cx s aD)) h:=by
 have u1:cE env .shr 68 false false (some (AV.int .u64 s)) (some (Zi aD))=some (AV.int .u64 (aq .u64 s aD)):=mK 68 false false .u64 .i64 o!
 have u2:cE env .and 68 false true (some (AV.int .u64 (aq .u64 s aD))) (some (AV.int .u64 1))=some (AV.int .u64 (af .u64 (aq .u64 s aD) 1)):=mJ 68 false true .u64 (aq .u64 s aD) 1
 have e:Cx s aD=(decide ((af .u64 (aq .u64 s aD) 1)=1)):=by simp only[Cx,ak,ah]
 rw[e]
 exact aC rfl (bh Try.func48 Xf rfl (.inr rfl) (pk (d) _ _ h _ h (CN 3<|VV u1<|VV u2<|VV (lH 68 false true .u64 (af .u64 (aq .u64 s aD) 1) 1)<|CC<|ZZ) k!) k!) (Has.refl _) rfl
def AD:Code:=(Try.f58.body).getD .skip
theorem GN:Try.f58.body=some AD:=by kernel_rfl
def bu (time:Int):Gate:=(⟨time,(-9223372036854775808),9223372036854775807⟩:Gate)
theorem xM {d:Nat} {h:aw} (time:Int) (ch:Tidy h):dh (d+1) (.fn 58) [(Zi time)] h= .ret (AV.agg [(Zi (bu time).time),(Zi (bu time).ax),(Zi (bu time).ar)]) h:=by
 obtain ⟨h1,ct,ck,jj,aW,cr⟩:=iX ch (aR.cells [(Zi 0),(Zi 0),(Zi 0)] 66 false)
 have bG:Has h h1:=cr
 obtain ⟨h2,ahe,jH,GC,fM,uI⟩:=vq (t:=66) (n:=3) (i:=h.nx) (L:=[(Zi time),(Zi (-9223372036854775808)),(Zi 9223372036854775807)]) ck aW k! rfl rfl (by simp only[AV.cells,List.all_cons,List.all_nil,Bool.and_true,Bool.and_self,jd,gK,je,jf,fi,mz,mA,mB,mC,mD,jg])
 have ke:Has h h2:=Has.dr bG uI ch o!
 have e:bu time=(⟨time,(-9223372036854775808),9223372036854775807⟩:Gate):=by simp only[bu,ak,ah]
 rw[e]
 exact aC rfl (mF (a:=2) (t:=66) (i:=h.nx) Try.func58 GN rfl (.inr rfl) (pk (d) _ _ h _ h2 (NN ct (fun i=>(Pt i))<|CN 3<|SS ahe<|ZZ) k!) k! (qa fM k!)) ke rfl
def DC:Code:=(Try.f46.body).getD .skip
theorem Cy:Try.f46.body=some DC:=by kernel_rfl
def eN (q:ay) (r:az) (failed:Int):Gate:=(bif (Cx failed r.aD) then (bu r.time) else (⟨r.time,(IntKind.i64.wrap (r.value -(fL (q.ae.g r.aD.toNat) r.time))),(IntKind.i64.wrap (r.value+(fL (q.ae.g r.aD.toNat) r.time)))⟩:Gate))
theorem LI {d:Nat} {h:aw} (q:ay) (r:az) (failed:Int) (gA:aA.ok h q) (h_r:aA.ok h r) (qV:0≤r.aD) (IN:r.aD<(q.ae.length:Int)) (ch:Tidy h):dh (d+2) (.fn 46) [(AV.agg [(AV.str q.name),(Zi q.ao),(Zi q.ai),(Zi q.aI),(Zi q.aJ),(Zi q.bad),q.aB]),(AV.agg [(Zi r.aD),(Zi r.time),(Zi r.value)]),(AV.int .u64 failed)] h= .ret (AV.agg [(Zi (eN q r failed).time),(Zi (eN q r failed).ax),(Zi (eN q r failed).ar)]) h:=by
 have jF:=gA.2.small
 obtain ⟨h1,ct,ck,jj,aW,cr⟩:=iX ch (aR.cells [(AV.str q.name),(Zi q.ao),(Zi q.ai),(Zi q.aI),(Zi q.aJ),(Zi q.bad),q.aB] 26 false)
 have bG:Has h h1:=cr
 obtain ⟨h2,pD,jH,GC,fM,hT⟩:=iX ck (aR.cells [(Zi r.aD),(Zi r.time),(Zi r.value)] 43 false)
 have ke:Has h h2:=bG.trans hT
 obtain ⟨h3,Dz,ia,W5,xG,ib⟩:=iX jH (aR.cells [(Zi 0),(Zi 0),(Zi 0)] 66 false)
 have jo:Has h h3:=ke.trans ib
 have k4:=Xg (d:=d) failed r.aD (by first | omega | assumption | (simp only[List.length_set,List.length_replicate,List.length_append,List.length_cons,List.length_nil,List.nil_append]<;>omega) | (rw[List.length_take];omega)) ia
 rcases Bool.eq_false_or_eq_true (Cx failed r.aD) with f0 | f0
 · have k6:=xM (d:=d) r.time ia
   obtain ⟨h7,qZ,lr,I4,mM,fB⟩:=vq (t:=66) (n:=3) (i:=h2.nx) (L:=[(Zi (bu r.time).time),(Zi (bu r.time).ax),(Zi (bu r.time).ar)]) ia xG k! rfl rfl (by simp only[AV.cells,List.all_cons,List.all_nil,Bool.and_true,Bool.and_self,jd,gK,je,jf,fi,mz,mA,mB,mC,mD,jg])
   have lu:Has h h7:=Has.dr jo fB ch o!
   have e:eN q r failed=(bu r.time):=by simp only[eN,f0,ak,ah]
   rw[e]
   exact aC rfl (mF (a:=6) (t:=66) (i:=h2.nx) Try.func46 Cy rfl (.inr rfl) (pk (d+1) _ _ h _ h7 (NN ct (fun i=>(Pt i))<|NN pD (fun i=>(Pt i))<|NN Dz (fun i=>(Pt i))<|CN 2<|MM (aK 3 0 (Zi r.aD) (ib _ _ fM) k!)<|EE k4<|BC f0<|MM (aK 3 1 (Zi r.time) (ib _ _ fM) k!)<|EE k6<|SS qZ<|ZZ) k!) k! (qa mM k!)) lu rfl
 · obtain ⟨p7,q8,Ss⟩:=gA.2.elem (i:=r.aD.toNat) o!
   have K3:dy env (some (.slice 45)) (some q.aB) (some (Zi r.aD))=some (AV.ptr p7 q8):=by rw[show (r.aD:Int)=((r.aD.toNat:Nat):Int) by omega];exact Ss
   have WT:bE env h3 45 (AV.ptr p7 q8)=some (AV.agg [(AV.str (q.ae.g r.aD.toNat).name),(Zi (q.ae.g r.aD.toNat).acc),(Zi (q.ae.g r.aD.toNat).bH),(Zi (q.ae.g r.aD.toNat).since)]):=(gA.2.has jo).load o! Ss
   have Qa:=zW (d:=d) (q.ae.g r.aD.toNat) r.time (aA.mono jo (gA.2.ok (i:=r.aD.toNat) o!)) ia
   have c11:AV.same 20 q.aB q.aB=true:=gA.2.same 19
   have SX:AV.same 20 (AV.agg [(AV.str (q.ae.g r.aD.toNat).name),(Zi (q.ae.g r.aD.toNat).acc),(Zi (q.ae.g r.aD.toNat).bH),(Zi (q.ae.g r.aD.toNat).since)]) (AV.agg [(AV.str (q.ae.g r.aD.toNat).name),(Zi (q.ae.g r.aD.toNat).acc),(Zi (q.ae.g r.aD.toNat).bH),(Zi (q.ae.g r.aD.toNat).since)])=true:=hI 18 (pL (fun n=>pZ n _) (pL (fun n=>aO n _ _) (pL (fun n=>aO n _ _) (pL (fun n=>aO n _ _) OX))))
   obtain ⟨Jl,ad6,Jm,aiH,ad7,abb⟩:=vq (t:=66) (n:=3) (i:=h2.nx) (L:=[(Zi r.time),(Zi (IntKind.i64.wrap (r.value -(fL (q.ae.g r.aD.toNat) r.time)))),(Zi (IntKind.i64.wrap (r.value+(fL (q.ae.g r.aD.toNat) r.time))))]) ia xG k! rfl rfl (by simp only[AV.cells,List.all_cons,List.all_nil,Bool.and_true,Bool.and_self,jd,gK,je,jf,fi,mz,mA,mB,mC,mD,jg])
   have Cz:Has h Jl:=Has.dr jo abb ch o!
   have e:eN q r failed=(⟨r.time,(IntKind.i64.wrap (r.value -(fL (q.ae.g r.aD.toNat) r.time))),(IntKind.i64.wrap (r.value+(fL (q.ae.g r.aD.toNat) r.time)))⟩:Gate):=by simp only[eN,f0,ak,ah]
   rw[e]
   exact aC rfl (mF (a:=6) (t:=66) (i:=h2.nx) Try.func46 Cy rfl (.inr rfl) (pk (d+1) _ _ h _ Jl (NN ct (fun i=>(Pt i))<|NN pD (fun i=>(Pt i))<|NN Dz (fun i=>(Pt i))<|CN 2<|MM (aK 3 0 (Zi r.aD) (ib _ _ fM) k!)<|EE k4<|BC f0<|MM (aK 24 6 q.aB (ib _ _ (hT _ _ aW)) k!)<|CC<|MM (aK 3 0 (Zi r.aD) (ib _ _ fM) k!)<|VV K3<|MM WT<|CC<|MM (aK 3 1 (Zi r.time) (ib _ _ fM) k!)<|EE Qa<|CC<|HH (aK 24 6 q.aB (ib _ _ (hT _ _ aW)) k!)<|HH c11<|HH (aK 3 0 (Zi r.aD) (ib _ _ fM) k!)<|HH (show AV.same 20 (Zi r.aD) (Zi r.aD)=true from aO 19 _ _)<|HH WT<|HH SX<|HH (aK 3 1 (Zi r.time) (ib _ _ fM) k!)<|HH (show AV.same 20 (Zi r.time) (Zi r.time)=true from aO 19 _ _)<|CC<|MM (aK 3 1 (Zi r.time) (ib _ _ fM) k!)<|CC<|MM (aK 3 2 (Zi r.value) (ib _ _ fM) k!)<|CN 3<|MM (aK 3 2 (Zi r.value) (ib _ _ fM) k!)<|CN 4<|SS ad6<|ZZ) k!) k! (qa ad7 k!)) Cz rfl
structure YlH {X:Type} (call:bj) (b:Nat) (ok:aw→List AV→X→Prop) (I:List X→(Nat→Prop)→aw→Prop):Prop where
 aU:∀{L P hh},I L P hh→∀k,P k→k<hh.nx
 stay:∀{L P hh hk},I L P hh→Tidy hk→hh.nx≤hk.nx→(∀k w,P k→hh.get k=some w→hk.get k=some w)→I L P hk
 next:∀{L a x P hh},L.length<1000→ok hh a x→I L P hh→Tidy hh→∃hk P',call (.uV b) a hh= .ret (.bool true) hk∧Tidy hk∧hh.nx≤hk.nx∧I (L++[x]) P' hk∧(∀k,P' k→P k∨hh.nx≤k)∧∀k w,¬P k→hh.get k=some w→hk.get k=some w
theorem bk.sl {α:Type} [aA α] {h0 h:aw} {z:AV} {l:List α} (o:bk h0 h z l) (hn:l≠ []):∃p op,z= .slice p 0 l.length l.length op∧h0.nx≤p∧h.get p=some (.cells (l.flatMap aA.c) (aA.e α) false):=by
 rcases o with ⟨_,rfl⟩ | ⟨_,p,op,e,hp,hg⟩
 · exact absurd rfl hn
 · exact ⟨p,op,e,hp,hg⟩
theorem bD.ne {z:AV} {k p o n c:Nat} {b:Bool} (ni:bD z k) (e:z= .slice p o n c b):k≠p:=fun q=>ni _ _ _ _ (by rw[e,q])
theorem Tj {p:Prop} (h:p:=by first | omega | assumption | (simp only[List.length_set,List.length_replicate,List.length_append,List.length_cons,List.length_nil,List.nil_append]<;>omega) | (rw[List.length_take];omega)):p:=h
theorem vN {p:Prop} (h:p:=by first | omega | (simp<;>omega)):p:=h
def oN:Code:=(Try.f44.body).getD .skip
theorem ad8:Try.f44.body=some oN:=by kernel_rfl
def fG:Code:=(cu oN).getD 0 .skip
def GO:Code:=(cu oN).getD 1 .skip
def cC (q:ay) (l:List az) (s0:Int):Nat→Nat→List Gate→List Gate
 | 0,_,vO=>vO
 | bC+1,i1,vO=>cC q l s0 bC (i1+1) (vO++[(eN q (l.g i1) s0)])
theorem CA {d:Nat} {rc:RC} {h:aw} (s0:Int) (lv:AV) (l:List az) (q:ay) (rv:AV) (b:Nat) (r:List Gate) (dc:Nat) (dL:Nat) (oO:Nat) (zg:Nat) (ov:aP h lv l) (mY:q.name.length<2^60) (xN:aP h q.aB q.ae) (CB:aP h rv r) (yS:aA.ok h q) (DD:∀k,k<l.length→0≤(l.g k).aD∧(l.g k).aD<(q.ae.length:Int)) (Jn:l.length≤18) (ch:Tidy h) (Dx:dc<h.nx) (LA:dL<h.nx) (ahf:oO<h.nx) (ahg:zg<h.nx) (zc:dL≠dc) (abc:oO≠dc) (abd:oO≠dL) (abe:zg≠dc) (abf:zg≠dL) (abg:zg≠oO):∀(k_ i_:Nat) (vO:List Gate) (zh:AV) (_:i_+k_=l.length) (x:Nat→AV) (hh:aw) (aL:Tidy hh) (bB:Has h hh) (iT:h.nx≤hh.nx) (dC:hh.get dc=some (aR.cells [(AV.str q.name),(Zi q.ao),(Zi q.ai),(Zi q.aI),(Zi q.aJ),(Zi q.bad),q.aB] 26 false)) (f_:hh.get dL=some (aR.cells [rv] 69 false)) (oP:hh.get oO=some (aR.cells [lv] 27 false)) (LJ:hh.get zg=some (aR.cells [(AV.cO b)] 86 false)) (Jo:bk h hh zh vO) (GP:∀y∈vO,aA.ok hh y) (YS:vO.length≤1*i_+2) (lz:bD zh dc) (lA:bD zh dL) (lB:bD zh oO) (lC:bD zh zg),sL rc (σ:=List Gate) (ζ:=AV) (dh (d+8)) GO ⟨((x 0)::(Pt dc)::(x 2)::(Pt dL)::(Pt oO)::(Pt zg)::(AV.int .u64 s0)::zh::rx x 8 15 (lv::(Zn l.length)::(Zn i_)::rx x 26 24 [])),hh,[],rc⟩ (.exit 2) hh (fun r z y=>((y 0)::(Pt dc)::(y 2)::(Pt dL)::(Pt oO)::(Pt zg)::(AV.int .u64 s0)::z::rx y 8 15 (lv::(Zn l.length)::rx y 25 25 []))) (fun r z hk=>Has h hk∧hk.get dc=some (aR.cells [(AV.str q.name),(Zi q.ao),(Zi q.ai),(Zi q.aI),(Zi q.aJ),(Zi q.bad),q.aB] 26 false)∧hk.get dL=some (aR.cells [rv] 69 false)∧hk.get oO=some (aR.cells [lv] 27 false)∧hk.get zg=some (aR.cells [(AV.cO b)] 86 false)∧bk h hk z r∧(∀y∈r,aA.ok hk y)∧r.length≤1*l.length+2∧bD z dc∧bD z dL∧bD z oO∧bD z zg) (cC q l s0 k_ i_ vO)
 | 0,i1,vO,zh,mR,x,hh,aL,bB,iT,dC,f_,oP,LJ,Jo,GP,YS,lz,lA,lB,lC=>by
   have vP:=ov.small
   have LK:=xN.small
   have CD:=CB.small
   have yT:=aL _ _ dC
   have GK:=aL _ _ f_
   have Tk:=aL _ _ oP
   have ahh:=aL _ _ LJ
   have rg_:=DD i1
   have q1:(decide (((i1:Nat):Int)<((l.length:Nat):Int)))=false:=d!
   have ev:=pkc rc (d+8) GO ((x 0)::(Pt dc)::(x 2)::(Pt dL)::(Pt oO)::(Pt zg)::(AV.int .u64 s0)::zh::rx x 8 15 (lv::(Zn l.length)::(Zn i1)::rx x 26 24 [])) hh (.exit 2) hh (VV (bU 3 false false .i64 ((i1:Nat):Int) ((l.length:Nat):Int))<|BB q1<|ZZ) k!
   exact sL.out vO zh rfl ev aL o! ⟨bB,dC,f_,oP,LJ,Jo,GP,vN,lz,lA,lB,lC⟩ k!
 | bC+1,i1,vO,zh,mR,x,hh,aL,bB,iT,dC,f_,oP,LJ,Jo,GP,YS,lz,lA,lB,lC=>by
   have vP:=ov.small
   have LK:=xN.small
   have CD:=CB.small
   have yT:=aL _ _ dC
   have GK:=aL _ _ f_
   have Tk:=aL _ _ oP
   have ahh:=aL _ _ LJ
   have rg_:=DD i1
   have q1:(decide (((i1:Nat):Int)<((l.length:Nat):Int)))=true:=d!
   obtain ⟨p3,q4,j8⟩:=ov.elem (i:=i1) o!
   have vw:dy env (some (.slice 43)) (some lv) (some (Zn i1))=some (AV.ptr p3 q4):=j8
   have yU:bE env hh 43 (AV.ptr p3 q4)=some (AV.agg [(Zi (l.g i1).aD),(Zi (l.g i1).time),(Zi (l.g i1).value)]):=(ov.has bB).load o! j8
   obtain ⟨h6,vF,m_,Ln,vG,ka⟩:=iX aL (aR.cells [(Zi 0),(Zi 0),(Zi 0)] 43 false)
   have oG:Has h h6:=bB.trans ka
   have lD:Has hh h6:=ka
   obtain ⟨h7,qZ,lr,I4,mM,fB⟩:=vq (t:=43) (n:=3) (i:=hh.nx) (L:=[(Zi (l.g i1).aD),(Zi (l.g i1).time),(Zi (l.g i1).value)]) m_ vG k! rfl rfl (by simp only[AV.cells,List.all_cons,List.all_nil,Bool.and_true,Bool.and_self,jd,gK,je,jf,fi,mz,mA,mB,mC,mD,jg])
   have lu:Has h h7:=Has.dr oG fB ch o!
   have nv:Has hh h7:=Has.dr lD fB aL o!
   have LM:bk h h7 zh vO:=bk.kept (bk.has Jo lD) fB (bk.sK aL Jo o!)
   have k8:=LI (d:=d+6) q (l.g i1) s0 (aA.mono lu yS) trivial Tj Tj lr
   obtain ⟨h9,ahi,K7,ajO,ahj,CE⟩:=iX lr (aR.cells [(Zi (eN q (l.g i1) s0).time),(Zi (eN q (l.g i1) s0).ax),(Zi (eN q (l.g i1) s0).ar)] 66 false)
   have Sr:Has h h9:=lu.trans CE
   have afX:Has hh h9:=nv.trans CE
   have Xh:Has h7 h9:=CE
   obtain ⟨z11,pM,abh,j9,Nn,ad9,ahk,rf,GQ⟩:=bk.Ds (tys:= #[69,69]) (l:=vO) (m:=[(eN q (l.g i1) s0)]) (x:=(AV.slice h7.nx 0 1 1 false)) K7 ch Sr o! (bk.has LM Xh) rfl (jh (x:=(eN q (l.g i1) s0)) ahj) (by simp [aA.c,Gate.c,AV.scalar]) vN rfl rfl k! k! (bytes:=24) k! (z0:=(AV.agg [(Zi 0),(Zi 0),(Zi 0)])) k! rfl (by decide)
   have kG:Has h pM:=ad9
   have abi:∀y∈(vO++[(eN q (l.g i1) s0)]),aA.ok pM y:=dE (D:=Gate) (kZ (dE (D:=Gate) (h':=h9) GP) (ok_one trivial))
   have u13:=fU 3 false true i1 1 o!
   have ev:=pkc rc (d+8) GO ((x 0)::(Pt dc)::(x 2)::(Pt dL)::(Pt oO)::(Pt zg)::(AV.int .u64 s0)::zh::rx x 8 15 (lv::(Zn l.length)::(Zn i1)::rx x 26 24 [])) hh .normal pM (VV (bU 3 false false .i64 ((i1:Nat):Int) ((l.length:Nat):Int))<|BV q1 vw<|MM yU<|NN vF (fun i=>(Pt i))<|SS qZ<|CC<|MM (aK 26 0 (AV.agg [(AV.str q.name),(Zi q.ao),(Zi q.ai),(Zi q.aI),(Zi q.aJ),(Zi q.bad),q.aB]) (fB _ _ o! (ka _ _ dC)) k!)<|MM (aK 43 0 (AV.agg [(Zi (l.g i1).aD),(Zi (l.g i1).time),(Zi (l.g i1).value)]) mM k!)<|CC<|EE k8<|NN ahi (fun i=>(AV.slice i 0 1 1 false))<|PP (show bR env h9 #[69,69] zh (AV.slice h7.nx 0 1 1 false)=some (z11,pM) from abh)<|CC<|VV u13<|CC<|ZZ) k!
   exact sL.round (by simp only[cC,ak,ah]) ev o! _ k! (fun x=>CA s0 lv l q rv b r dc dL oO zg ov mY xN CB yS DD Jn ch Dx LA ahf ahg zc abc abd abe abf abg bC (i1+1) (vO++[(eN q (l.g i1) s0)]) z11 o! x pM j9 kG o! (rf _ _ lz (CE _ _ (fB _ _ o! (ka _ _ dC)))) (rf _ _ lA (CE _ _ (fB _ _ o! (ka _ _ f_)))) (rf _ _ lB (CE _ _ (fB _ _ o! (ka _ _ oP)))) (rf _ _ lC (CE _ _ (fB _ _ o! (ka _ _ LJ)))) ahk abi vN (GQ _ (K7 _ _ (CE _ _ (fB _ _ o! (ka _ _ dC)))) lz) (GQ _ (K7 _ _ (CE _ _ (fB _ _ o! (ka _ _ f_)))) lA) (GQ _ (K7 _ _ (CE _ _ (fB _ _ o! (ka _ _ oP)))) lB) (GQ _ (K7 _ _ (CE _ _ (fB _ _ o! (ka _ _ LJ)))) lC))
theorem LN (q:ay) (l:List az) (s0:Int):∀(k i:Nat) (v:List Gate),i+k=l.length→cC q l s0 k i v=v++(l.drop i).map fun r=>eN q r s0
 | 0,i,v,h=>by rw[cC,List.drop_eq_nil_of_le o!,List.map_nil,List.append_nil]
 | k+1,i,v,h=>by
   rw[cC,LN q l s0 k (i+1) _ o!,List.drop_eq_getElem_cons (show i<l.length by omega),List.map_cons,List.append_assoc]
   have:l.g i=l[i]'o! :=by rw[List.g,List.getD_eq_getElem?_getD,List.getElem?_eq_getElem o!];rfl
   rw[this];rfl
theorem CG {q:ay} {l:List az} {s0:Int} {g:Gate} {r:List Gate} (_:Unit):cC q l s0 l.length 0 ([g]++r)≠ []:=by
 rw[LN q l s0 _ _ _ o!];simp
theorem Tl {d:Nat} {h:aw} {q:ay} {l:List az} {r:List Gate} {m s0:Int} {lv rv:AV} {b bq bm br bl by_ lp:Nat} (x:Nat→AV) (ch:Tidy h) (hq:aA.ok h q) (hl:aP h lv l) (hr:aP h rv r) (HB:l.length≤18) (hrl:r.length≤1) (hg:∀k,k<l.length→0≤(l.g k).aD∧(l.g k).aD<(q.ae.length:Int)) (gq:h.get bq=some (.cells (aA.c q) 26 false)) (gm:h.get bm=some (.cells [Zi m] 3 false)) (gr:h.get br=some (.cells [rv] 69 false)) (gl:h.get bl=some (.cells [lv] 27 false)) (gy:h.get by_=some (.cells [.cO b] 86 false)) (dd:bq<bl∧bl<bm∧bm<br∧br<by_) (hc:(iI q (cC q l s0 l.length 0 (([(⟨0,q.ao,q.ai⟩:Gate)])++r)).length ((cC q l s0 l.length 0 (([(⟨0,q.ao,q.ai⟩:Gate)])++r)).length - 1) 1 (eM (cC q l s0 l.length 0 (([(⟨0,q.ao,q.ai⟩:Gate)])++r)).length ((cC q l s0 l.length 0 (([(⟨0,q.ao,q.ai⟩:Gate)])++r)).length - 1) 1 (cC q l s0 l.length 0 (([(⟨0,q.ao,q.ai⟩:Gate)])++r))))=none):
 ∃jQ h',Ev env (dh (d+8)) fG ⟨((AV.cO b)::(Pt bq)::(Pt bm)::(Pt br)::(Pt bl)::(Pt by_)::(AV.int .u64 s0)::rx x 7 9 ((AV.int .u64 s0)::rx x 17 33 [])),h,[],.rN lp⟩ .normal ⟨jQ,h',[],.rN lp⟩∧Tidy h'∧h.nx≤h'.nx∧Has h h':=by
 have T_q:=ch _ _ gq
 have T_m:=ch _ _ gm
 have T_r:=ch _ _ gr
 have T_l:=ch _ _ gl
 have T_y:=ch _ _ gy
 have s_l:=hl.small
 have s_r:=hr.small
 obtain ⟨h1,ct,ck,jj,aW,cr⟩:=iX ch (aR.cells [(Zi 0),(Zi q.ao),(Zi q.ai)] 66 false)
 have bG:Has h h1:=cr
 have oz5:bk h h1 (AV.slice h.nx 0 1 1 false) [(⟨0,q.ao,q.ai⟩:Gate)]:= .inr ⟨by simp,h.nx,false,rfl,by omega,aW⟩
 obtain ⟨z3,h2,Tm,jH,Lv,abj,oz4,ti,xO⟩:=bk.Ds (tys:= #[69,69]) (l:=[(⟨0,q.ao,q.ai⟩:Gate)]) (m:=r) (x:=rv) ck ch bG o! oz5 (hr.has bG).kM (hr.has bG).first (kF (hr.has bG) (fun y hy=>by simp [aA.c,Gate.c,AV.scalar])) vN rfl rfl k! k! (bytes:=24) k! (z0:=(AV.agg [(Zi 0),(Zi 0),(Zi 0)])) k! rfl (by decide)
 have ke:Has h h2:=abj
 have Tn:∀y∈(([(⟨0,q.ao,q.ai⟩:Gate)])++r),aA.ok h2 y:=dE (D:=Gate) (kZ (dE (D:=Gate) (h':=h1) (ok_one (h:=h1) trivial)) (hr.has bG).Gk)
 have NF:dN (some (.slice 43)) (some lv)=some (Zn l.length):=hl.len
 obtain ⟨zo9,yl7,h8,LO,Xi,ahl,To,LP,abk,abl,Tp,CH,GR,abm,AE,AF,AG,rC⟩:=CA (d:=d) (rc:=(.rN lp)) (h:=h) s0 lv l q rv b r bq br bl by_ hl hq.1 hq.2 hr hq hg HB ch o! o! o! o! o! o! o! o! o! o! l.length 0 (([(⟨0,q.ao,q.ai⟩:Gate)])++r) z3 o! (fun k_=>(((AV.cO b)::(Pt bq)::(Pt bm)::(Pt br)::(Pt bl)::(Pt by_)::(AV.int .u64 s0)::z3::rx x 8 8 ((AV.int .u64 s0)::(AV.ptr bq 1)::(AV.agg [(Zi q.ao),(Zi q.ai)])::(AV.agg [(Zi 0),(Zi q.ao),(Zi q.ai)])::(AV.slice h.nx 0 1 1 false)::rv::z3::lv::(Zn l.length)::(Zi 0)::rx x 26 24 [])):List AV).getD k_ AV.undef) h2 jH ke o! (ti _ _ (bD.slice o!) (cr _ _ gq)) (ti _ _ (bD.slice o!) (cr _ _ gr)) (ti _ _ (bD.slice o!) (cr _ _ gl)) (ti _ _ (bD.slice o!) (cr _ _ gy)) oz4 Tn vN (xO _ (ck _ _ (cr _ _ gq)) (bD.slice o!)) (xO _ (ck _ _ (cr _ _ gr)) (bD.slice o!)) (xO _ (ck _ _ (cr _ _ gl)) (bD.slice o!)) (xO _ (ck _ _ (cr _ _ gy)) (bD.slice o!))
 have LQ:aP h8 zo9 (cC q l s0 l.length 0 (([(⟨0,q.ao,q.ai⟩:Gate)])++r)):=bk.rows CH o! GR
 have Xj:=LQ.small
 have LS:Has h h8:=To
 obtain ⟨Xk,Tq,GS,CI,LU⟩:=bk.sl CH (CG ())
 obtain ⟨pM,abn,CJ,j9,Nn,rf,Tr,LV⟩:=ad1 (d:=d) (g:=h) (p:=Xk) (op:=Tq) (L:=(cC q l s0 l.length 0 (([(⟨0,q.ao,q.ai⟩:Gate)])++r))) q hq LS (AY ch CI) Xi LU rfl o! (List.length_pos_iff.2 (CG ()))
 rw[Tr hc] at CJ
 have Ts:(dh (d+8)) (.fn 47) [(AV.agg [(AV.str q.name),(Zi q.ao),(Zi q.ai),(Zi q.aI),(Zi q.aJ),(Zi q.bad),q.aB]),zo9] h8= .ret AV.aN pM:=by rw[GS];exact CJ
 have kG:Has h pM:=(Has.dr LS rf ch CI)
 have ev:=pkc (.rN lp) (d+8) fG ((AV.cO b)::(Pt bq)::(Pt bm)::(Pt br)::(Pt bl)::(Pt by_)::(AV.int .u64 s0)::rx x 7 9 ((AV.int .u64 s0)::rx x 17 33 [])) h .normal pM (CC<|MM (aK 23 1 (AV.agg [(Zi q.ao),(Zi q.ai)]) gq k!)<|CC<|NN ct (fun i=>(AV.slice i 0 1 1 false))<|MM (aK 69 0 rv (cr _ _ gr) k!)<|PP (show bR env h1 #[69,69] (AV.slice h.nx 0 1 1 false) rv=some (z3,h2) from Tm)<|CC<|MM (aK 27 0 lv (ti _ _ (bD.slice o!) (cr _ _ gl)) k!)<|VV NF<|CC<|LL LO<|MM (aK 26 0 (AV.agg [(AV.str q.name),(Zi q.ao),(Zi q.ai),(Zi q.aI),(Zi q.aJ),(Zi q.bad),q.aB]) LP k!)<|CC<|EE Ts<|CN 5<|FF<|FF<|FF<|FF<|FF<|CC<|FF<|ZZ) k!
 exact ⟨_,_,ev,j9,by omega,kG⟩
theorem Tt {d:Nat} {h:aw} {q:ay} {l:List az} {r:List Gate} {m s0:Int} {lv rv:AV} {b bq bm br bl by_ lp:Nat} (x:Nat→AV) (ch:Tidy h) (hq:aA.ok h q) (hl:aP h lv l) (hr:aP h rv r) (HB:l.length≤18) (hrl:r.length≤1) (hg:∀k,k<l.length→0≤(l.g k).aD∧(l.g k).aD<(q.ae.length:Int)) (gq:h.get bq=some (.cells (aA.c q) 26 false)) (gm:h.get bm=some (.cells [Zi m] 3 false)) (gr:h.get br=some (.cells [rv] 69 false)) (gl:h.get bl=some (.cells [lv] 27 false)) (gy:h.get by_=some (.cells [.cO b] 86 false)) (dd:bq<bl∧bl<bm∧bm<br∧br<by_) {w:List Gate} (hc:(iI q (cC q l s0 l.length 0 (([(⟨0,q.ao,q.ai⟩:Gate)])++r)).length ((cC q l s0 l.length 0 (([(⟨0,q.ao,q.ai⟩:Gate)])++r)).length - 1) 1 (eM (cC q l s0 l.length 0 (([(⟨0,q.ao,q.ai⟩:Gate)])++r)).length ((cC q l s0 l.length 0 (([(⟨0,q.ao,q.ai⟩:Gate)])++r)).length - 1) 1 (cC q l s0 l.length 0 (([(⟨0,q.ao,q.ai⟩:Gate)])++r))))=some w) {ok:aw→List AV→(Int×List Gate)→Prop} {I:List (Int×List Gate)→(Nat→Prop)→aw→Prop} (yl:YlH (dh (d+8)) b ok I) {L:List (Int×List Gate)} {P:Nat→Prop} (hLL:L.length<1000) (hi:I L P h) (jI:∀{hk:aw} {p:Nat} {op:Bool},hk.get p=some (.cells (List.flatMap (aA.c (α:=Gate)) (iJ q ((cC q l s0 l.length 0 (([(⟨0,q.ao,q.ai⟩:Gate)])++r)).length - 1) 0 w)) 66 false)→ok hk [.int .u64 s0,.slice p 0 (cC q l s0 l.length 0 (([(⟨0,q.ao,q.ai⟩:Gate)])++r)).length (cC q l s0 l.length 0 (([(⟨0,q.ao,q.ai⟩:Gate)])++r)).length op] (s0,iJ q ((cC q l s0 l.length 0 (([(⟨0,q.ao,q.ai⟩:Gate)])++r)).length - 1) 0 w)) (ajP:¬P bq) (ajQ:¬P bm) (ajR:¬P br) (ajS:¬P bl) (aiJ:¬P by_):
 ∃jQ h' P',Ev env (dh (d+8)) fG ⟨((AV.cO b)::(Pt bq)::(Pt bm)::(Pt br)::(Pt bl)::(Pt by_)::(AV.int .u64 s0)::rx x 7 9 ((AV.int .u64 s0)::rx x 17 33 [])),h,[],.rN lp⟩ .normal ⟨jQ,h',[],.rN lp⟩∧Tidy h'∧h.nx≤h'.nx∧I (L++[(s0,iJ q ((cC q l s0 l.length 0 (([(⟨0,q.ao,q.ai⟩:Gate)])++r)).length - 1) 0 w)]) P' h'∧(∀j,P' j→P j∨h.nx≤j)∧Left P h h':=by
 have T_q:=ch _ _ gq
 have T_m:=ch _ _ gm
 have T_r:=ch _ _ gr
 have T_l:=ch _ _ gl
 have T_y:=ch _ _ gy
 have s_l:=hl.small
 have s_r:=hr.small
 have np_:0<(cC q l s0 l.length 0 (([(⟨0,q.ao,q.ai⟩:Gate)])++r)).length:=List.length_pos_iff.2 (CG ())
 obtain ⟨h1,ct,ck,jj,aW,cr⟩:=iX ch (aR.cells [(Zi 0),(Zi q.ao),(Zi q.ai)] 66 false)
 have bG:Has h h1:=cr
 have oz5:bk h h1 (AV.slice h.nx 0 1 1 false) [(⟨0,q.ao,q.ai⟩:Gate)]:= .inr ⟨by simp,h.nx,false,rfl,by omega,aW⟩
 obtain ⟨z3,h2,Tm,jH,Lv,abj,oz4,ti,xO⟩:=bk.Ds (tys:= #[69,69]) (l:=[(⟨0,q.ao,q.ai⟩:Gate)]) (m:=r) (x:=rv) ck ch bG o! oz5 (hr.has bG).kM (hr.has bG).first (kF (hr.has bG) (fun y hy=>by simp [aA.c,Gate.c,AV.scalar])) vN rfl rfl k! k! (bytes:=24) k! (z0:=(AV.agg [(Zi 0),(Zi 0),(Zi 0)])) k! rfl (by decide)
 have ke:Has h h2:=abj
 have Tn:∀y∈(([(⟨0,q.ao,q.ai⟩:Gate)])++r),aA.ok h2 y:=dE (D:=Gate) (kZ (dE (D:=Gate) (h':=h1) (ok_one (h:=h1) trivial)) (hr.has bG).Gk)
 have NF:dN (some (.slice 43)) (some lv)=some (Zn l.length):=hl.len
 obtain ⟨zo9,yl7,h8,LO,Xi,ahl,To,LP,abk,abl,Tp,CH,GR,abm,AE,AF,AG,rC⟩:=CA (d:=d) (rc:=(.rN lp)) (h:=h) s0 lv l q rv b r bq br bl by_ hl hq.1 hq.2 hr hq hg HB ch o! o! o! o! o! o! o! o! o! o! l.length 0 (([(⟨0,q.ao,q.ai⟩:Gate)])++r) z3 o! (fun k_=>(((AV.cO b)::(Pt bq)::(Pt bm)::(Pt br)::(Pt bl)::(Pt by_)::(AV.int .u64 s0)::z3::rx x 8 8 ((AV.int .u64 s0)::(AV.ptr bq 1)::(AV.agg [(Zi q.ao),(Zi q.ai)])::(AV.agg [(Zi 0),(Zi q.ao),(Zi q.ai)])::(AV.slice h.nx 0 1 1 false)::rv::z3::lv::(Zn l.length)::(Zi 0)::rx x 26 24 [])):List AV).getD k_ AV.undef) h2 jH ke o! (ti _ _ (bD.slice o!) (cr _ _ gq)) (ti _ _ (bD.slice o!) (cr _ _ gr)) (ti _ _ (bD.slice o!) (cr _ _ gl)) (ti _ _ (bD.slice o!) (cr _ _ gy)) oz4 Tn vN (xO _ (ck _ _ (cr _ _ gq)) (bD.slice o!)) (xO _ (ck _ _ (cr _ _ gr)) (bD.slice o!)) (xO _ (ck _ _ (cr _ _ gl)) (bD.slice o!)) (xO _ (ck _ _ (cr _ _ gy)) (bD.slice o!))
 have LQ:aP h8 zo9 (cC q l s0 l.length 0 (([(⟨0,q.ao,q.ai⟩:Gate)])++r)):=bk.rows CH o! GR
 have Xj:=LQ.small
 have LS:Has h h8:=To
 obtain ⟨Xk,Tq,GS,CI,LU⟩:=bk.sl CH (CG ())
 obtain ⟨pM,abn,CJ,j9,Nn,rf,Tr,LV⟩:=ad1 (d:=d) (g:=h) (p:=Xk) (op:=Tq) (L:=(cC q l s0 l.length 0 (([(⟨0,q.ao,q.ai⟩:Gate)])++r))) q hq LS (AY ch CI) Xi LU rfl o! (List.length_pos_iff.2 (CG ()))
 rw[(LV _ hc).1] at CJ
 have Ts:(dh (d+8)) (.fn 47) [(AV.agg [(AV.str q.name),(Zi q.ao),(Zi q.ai),(Zi q.aI),(Zi q.aJ),(Zi q.bad),q.aB]),zo9] h8= .ret (AV.slice Xk 0 (cC q l s0 l.length 0 (([(⟨0,q.ao,q.ai⟩:Gate)])++r)).length (cC q l s0 l.length 0 (([(⟨0,q.ao,q.ai⟩:Gate)])++r)).length Tq) pM:=by rw[GS];exact CJ
 have kG:Has h pM:=(Has.dr LS rf ch CI)
 have Hm:(decide (0<(((cC q l s0 l.length 0 (([(⟨0,q.ao,q.ai⟩:Gate)])++r)).length:Nat):Int)))=true:=d!
 obtain ⟨h14,aea,aeb,aec,aiK,aed,aee,abo⟩:=yl.next (L:=L) (P:=P) hLL (jI (op:=Tq) (LV _ hc).2) (yl.stay hi j9 o! (fun k w _ g=>kG _ _ g)) j9
 have ev:=pkc (.rN lp) (d+8) fG ((AV.cO b)::(Pt bq)::(Pt bm)::(Pt br)::(Pt bl)::(Pt by_)::(AV.int .u64 s0)::rx x 7 9 ((AV.int .u64 s0)::rx x 17 33 [])) h .normal h14 (CC<|MM (aK 23 1 (AV.agg [(Zi q.ao),(Zi q.ai)]) gq k!)<|CC<|NN ct (fun i=>(AV.slice i 0 1 1 false))<|MM (aK 69 0 rv (cr _ _ gr) k!)<|PP (show bR env h1 #[69,69] (AV.slice h.nx 0 1 1 false) rv=some (z3,h2) from Tm)<|CC<|MM (aK 27 0 lv (ti _ _ (bD.slice o!) (cr _ _ gl)) k!)<|VV NF<|CC<|LL LO<|MM (aK 26 0 (AV.agg [(AV.str q.name),(Zi q.ao),(Zi q.ai),(Zi q.aI),(Zi q.aJ),(Zi q.bad),q.aB]) LP k!)<|CC<|EE Ts<|CN 3<|VV (b9 3 false true .i64 (((cC q l s0 l.length 0 (([(⟨0,q.ao,q.ai⟩:Gate)])++r)).length:Nat):Int) 0)<|CC<|BM Hm (aK 86 0 (AV.cO b) (rf _ _ (rC.ne GS) Tp) k!)<|BC Hm<|BC Hm<|BB Hm<|AA (.e (.bool true) h14)<|HH aeb<|BC Hm<|VV (oV false false Hm)<|FF<|ZZ) k!
 exact ⟨_,_,aea,ev,aec,by omega,aed,fun j hj=>(aee j hj).imp id fun _=>by omega,fun j w hj gw=>abo _ _ hj (kG _ _ gw)⟩
def Tu:Code→Code
 | .seq a b=>match Tu a with
   | .skip=>Tu b
   | c=>c
 | .block _ b=>Tu b
 | .rangeFunc _ _ a _=>a
 | _=> .skip
def js:Code:=Tu oN
theorem CK {call:bj} {c:Code} {s:St} {e:h_} {L L':List AV} {h:aw} {rc:RC} (q:L=L') (ev:Ev env call c s e ⟨L,h,[],rc⟩):Ev env call c s e ⟨L',h,[],rc⟩:=q▸ev
theorem NG {d:Nat} (x:Nat→AV) (b bq bm br bl by_ lp:Nat) (s0:Int) (h:aw):
 Ev env (dh (d+8)) js ⟨(AV.cO b)::(Pt bq)::(Pt bm)::(Pt br)::(Pt bl)::(Pt by_)::rx x 6 10 ((AV.int .u64 s0)::rx x 17 33 []),h,[],.rN lp⟩ .normal ⟨(AV.cO b)::(Pt bq)::(Pt bm)::(Pt br)::(Pt bl)::(Pt by_)::(AV.int .u64 s0)::rx x 7 9 ((AV.int .u64 s0)::rx x 17 33 []),h,[],.rN lp⟩:=by
 have ev:=pkc (.rN lp) (d+8) js ((AV.cO b)::(Pt bq)::(Pt bm)::(Pt br)::(Pt bl)::(Pt by_)::rx x 6 10 ((AV.int .u64 s0)::rx x 17 33 [])) h .normal h (CC<|ZZ) k!
 exact CK (by kernel_rfl) ev
theorem NH (x:Nat→AV) (b bq bm br bl by_:Nat) (a:AV):([16].zip [a]).foldl (fun ts y=>ts.set y.1 y.2) ((AV.cO b)::(Pt bq)::(Pt bm)::(Pt br)::(Pt bl)::(Pt by_)::rx x 6 44 [])=(AV.cO b)::(Pt bq)::(Pt bm)::(Pt br)::(Pt bl)::(Pt by_)::rx x 6 10 (a::rx x 17 33 []):=by kernel_rfl
def uJ (q:ay) (l:List az) (r:List Gate) (s0:Int):Nat:=(cC q l s0 l.length 0 (([(⟨0,q.ao,q.ai⟩:Gate)])++r)).length
def dI (q:ay) (l:List az) (r:List Gate) (s0:Int):Option (List Gate):=(iI q (cC q l s0 l.length 0 (([(⟨0,q.ao,q.ai⟩:Gate)])++r)).length ((cC q l s0 l.length 0 (([(⟨0,q.ao,q.ai⟩:Gate)])++r)).length - 1) 1 (eM (cC q l s0 l.length 0 (([(⟨0,q.ao,q.ai⟩:Gate)])++r)).length ((cC q l s0 l.length 0 (([(⟨0,q.ao,q.ai⟩:Gate)])++r)).length - 1) 1 (cC q l s0 l.length 0 (([(⟨0,q.ao,q.ai⟩:Gate)])++r)))).map (iJ q ((cC q l s0 l.length 0 (([(⟨0,q.ao,q.ai⟩:Gate)])++r)).length - 1) 0)
def NI (q:ay) (l:List az) (r:List Gate):List AV→Option (Int×List Gate)
 | [.int .u64 s]=>(dI q l r s).map fun w=>(s,w)
 | _=>none
def lT (x:Nat→AV) (b bq bm br bl by_:Nat):List AV:=(AV.cO b)::(Pt bq)::(Pt bm)::(Pt br)::(Pt bl)::(Pt by_)::rx x 6 44 []
def ExI (I:List (Int×List Gate)→(Nat→Prop)→aw→Prop) (g:aw) (q:ay) (l:List az) (r:List Gate) (m:Int) (lv rv:AV) (b bq bm br bl by_ lp:Nat) (x:Nat→AV) (dn:Nat) (L:List (List AV)) (P':Nat→Prop) (hh:aw):Prop:=
 ∃P0:Nat→Prop,I (L.filterMap (NI q l r)) P0 hh∧Has g hh∧g.nx≤hh.nx∧lp<hh.nx∧hh.get bq=some (.cells (aA.c q) 26 false)∧hh.get bm=some (.cells [Zi m] 3 false)∧hh.get br=some (.cells [rv] 69 false)∧hh.get bl=some (.cells [lv] 27 false)∧hh.get by_=some (.cells [.cO b] 86 false)∧hh.get lp=some (.loop .ready none (lT x b bq bm br bl by_) [16] js fG dn)∧(∀k,P0 k→g.get k=none∧k≠bq∧k≠bm∧k≠br∧k≠bl∧k≠by_∧k≠lp)∧∀k,P' k↔(P0 k∨(∃w,g.get k=some w)∨k=bq∨k=bm∨k=br∨k=bl∨k=by_∨k=lp)
theorem abp {d:Nat} {g:aw} {q:ay} {l:List az} {r:List Gate} {m:Int} {lv rv:AV} {b bq bm br bl by_ lp:Nat} (x:Nat→AV) (dn:Nat) (YT:Tidy g) (hq:aA.ok g q) (hl:aP g lv l) (hr:aP g rv r) (HB:l.length≤18) (hrl:r.length≤1) (hg:∀k,k<l.length→0≤(l.g k).aD∧(l.g k).aD<(q.ae.length:Int)) (dd:bq<bl∧bl<bm∧bm<br∧br<by_) (gb:g.nx≤bq) (bp:by_<lp)
 {ok:aw→List AV→(Int×List Gate)→Prop} {I:List (Int×List Gate)→(Nat→Prop)→aw→Prop} (yl:YlH (dh (d+8)) b ok I) (jI:∀{s0:Int} {w:List Gate} {hk:aw} {p:Nat} {op:Bool},dI q l r s0=some w→hk.get p=some (.cells (List.flatMap (aA.c (α:=Gate)) w) 66 false)→ok hk [.int .u64 s0,.slice p 0 (uJ q l r s0) (uJ q l r s0) op] (s0,w)):
 Yl (dh (d+9)) lp (fun a=>∃s0:Int,a=[AV.int .u64 s0]) (ExI I g q l r m lv rv b bq bm br bl by_ lp x dn) where
 aU:=by
  rintro L P' hh ⟨P0,i0,ag,gn,gx,gq,gm,gr,gl,gy,gp,nP,pp⟩ k hk
  rcases (pp k).1 hk with p | ⟨w,p⟩ | p
  · exact yl.aU i0 k p
  · have:=YT _ _ p;omega
  · omega
 stay:=by
  rintro L P' hh hk ⟨P0,i0,ag,gn,gx,gq,gm,gr,gl,gy,gp,nP,pp⟩ yk nk kp
  have K:=fun k w (c:P0 k∨(∃w,g.get k=some w)∨k=bq∨k=bm∨k=br∨k=bl∨k=by_∨k=lp) e=>kp k w ((pp k).2 c) e
  exact ⟨P0,yl.stay i0 yk nk fun k w p e=>K k w (.inl p) e,fun k w e=>K k w (.inr (.inl ⟨_,e⟩)) (ag _ _ e),by omega,by omega,K _ _ (by simp) gq,K _ _ (by simp) gm,K _ _ (by simp) gr,K _ _ (by simp) gl,K _ _ (by simp) gy,K _ _ (by simp) gp,nP,pp⟩
 next:=by
  rintro L a P' hh hLL ⟨s0,rfl⟩ ⟨P0,i0,ag,gn,gx,gq,gm,gr,gl,gy,gp,nP,pp⟩ y
  have T1:=y _ _ gp
  have c1:=l7 (o:= .loop .busy none (lT x b bq bm br bl by_) [16] js fG dn) y gp
  have ag1:Has g (hh.put lp (some (.loop .busy none (lT x b bq bm br bl by_) [16] js fG dn))):=fun k w e=>c1.2.2 _ _ (fun e'=>by have:=YT _ _ e;omega) (ag _ _ e)
  have pl:P' lp:=(pp lp).2 (by simp)
  cases hc:(iI q (cC q l s0 l.length 0 (([(⟨0,q.ao,q.ai⟩:Gate)])++r)).length ((cC q l s0 l.length 0 (([(⟨0,q.ao,q.ai⟩:Gate)])++r)).length - 1) 1 (eM (cC q l s0 l.length 0 (([(⟨0,q.ao,q.ai⟩:Gate)])++r)).length ((cC q l s0 l.length 0 (([(⟨0,q.ao,q.ai⟩:Gate)])++r)).length - 1) 1 (cC q l s0 l.length 0 (([(⟨0,q.ao,q.ai⟩:Gate)])++r)))) with
  | none=>
    obtain ⟨jQ,h2,ev,y2,n2,a2⟩:=Tl (d:=d) (b:=b) (bq:=bq) (bm:=bm) (br:=br) (bl:=bl) (by_:=by_) (lp:=lp) x c1.1 (aA.mono ag1 hq) (hl.has ag1) (hr.has ag1) HB hrl hg (c1.2.2 _ _ o! gq) (c1.2.2 _ _ o! gm) (c1.2.2 _ _ o! gr) (c1.2.2 _ _ o! gl) (c1.2.2 _ _ o! gy) dd hc
    have e:=KX (d:=d+8) (args:=[.int .u64 s0]) (jump:=none) gp rfl ((NH x b bq bm br bl by_ (.int .u64 s0))▸NG x b bq bm br bl by_ lp s0 hh) gp ev (.inl ⟨rfl,rfl⟩) (a2 _ _ c1.2.1)
    have c3:=l7 (o:= .loop .ready none (lT x b bq bm br bl by_) [16] js fG dn) y2 (a2 _ _ c1.2.1)
    have K:∀k w,k≠lp→hh.get k=some w→(h2.put lp (some (.loop .ready none (lT x b bq bm br bl by_) [16] js fG dn))).get k=some w:=fun k w n e=>c3.2.2 _ _ n (a2 _ _ (c1.2.2 _ _ n e))
    refine ⟨_,P',e,c3.1,n2,⟨P0,?_,fun k w e=>K _ _ (fun e'=>by have:=YT _ _ e;omega) (ag _ _ e),Nat.le_trans gn n2,Nat.lt_of_lt_of_le gx n2,K _ _ o! gq,K _ _ o! gm,K _ _ o! gr,K _ _ o! gl,K _ _ o! gy,c3.2.1,nP,pp⟩,fun _=> .inl,fun k w n e=>K k w (fun e'=>n (e'▸pl)) e⟩
    rw[List.filterMap_append,List.filterMap_cons_none (show NI q l r [AV.int .u64 s0]=none by show (dI q l r s0).map _=_;rw[dI,hc];rfl),List.filterMap_nil,List.append_nil]
    exact yl.stay i0 c3.1 n2 fun k w p e=>K k w (nP k p).2.2.2.2.2.2 e
  | some w=>
    have ht:dI q l r s0=some (iJ q ((cC q l s0 l.length 0 (([(⟨0,q.ao,q.ai⟩:Gate)])++r)).length - 1) 0 w):=by rw[dI,hc];rfl
    have np:∀{k},(k=bq∨k=bm∨k=br∨k=bl∨k=by_∨k=lp)→¬P0 k:=fun {k} c p=>by have:=nP k p;omega
    obtain ⟨jQ,h2,P2,ev,y2,n2,i2,p2,l2⟩:=Tt (d:=d) (b:=b) (bq:=bq) (bm:=bm) (br:=br) (bl:=bl) (by_:=by_) (lp:=lp) x c1.1 (aA.mono ag1 hq) (hl.has ag1) (hr.has ag1) HB hrl hg (c1.2.2 _ _ o! gq) (c1.2.2 _ _ o! gm) (c1.2.2 _ _ o! gr) (c1.2.2 _ _ o! gl) (c1.2.2 _ _ o! gy) dd hc yl (Nat.lt_of_le_of_lt (List.length_filterMap_le _ _) hLL) (yl.stay i0 c1.1 (Nat.le_refl _) fun k w p e=>c1.2.2 _ _ (nP k p).2.2.2.2.2.2 e) (fun {hk p op} e=>jI ht e) (np (by simp)) (np (by simp)) (np (by simp)) (np (by simp)) (np (by simp))
    have e:=KX (d:=d+8) (args:=[.int .u64 s0]) (jump:=none) gp rfl ((NH x b bq bm br bl by_ (.int .u64 s0))▸NG x b bq bm br bl by_ lp s0 hh) gp ev (.inl ⟨rfl,rfl⟩) (l2 _ _ (np (by simp)) c1.2.1)
    have c3:=l7 (o:= .loop .ready none (lT x b bq bm br bl by_) [16] js fG dn) y2 (l2 _ _ (np (by simp)) c1.2.1)
    have K:∀k w,k≠lp→¬P0 k→hh.get k=some w→(h2.put lp (some (.loop .ready none (lT x b bq bm br bl by_) [16] js fG dn))).get k=some w:=fun k w n n' e=>c3.2.2 _ _ n (l2 _ _ n' (c1.2.2 _ _ n e))
    have T:∀{k w},hh.get k=some w→k<hh.nx:=fun e=>y _ _ e
    have t1:=T gq;have t2:=T gm;have t3:=T gr;have t4:=T gl;have t5:=T gy
    have nP2:∀k,P2 k→g.get k=none∧k≠bq∧k≠bm∧k≠br∧k≠bl∧k≠by_∧k≠lp:=fun k p=>by
     rcases p2 k p with h | h
     · exact nP k h
     · have h:hh.nx≤k:=h
       exact ⟨AY YT o!,by omega⟩
    refine ⟨_,fun k=>P2 k∨(∃w,g.get k=some w)∨k=bq∨k=bm∨k=br∨k=bl∨k=by_∨k=lp,e,c3.1,n2,⟨P2,?_,fun k w e=>K _ _ (fun e'=>by have:=YT _ _ e;omega) (fun p=>by have:=(nP k p).1;rw[e] at this;cases this) (ag _ _ e),Nat.le_trans gn n2,Nat.lt_of_lt_of_le gx n2,K _ _ o! (np (by simp)) gq,K _ _ o! (np (by simp)) gm,K _ _ o! (np (by simp)) gr,K _ _ o! (np (by simp)) gl,K _ _ o! (np (by simp)) gy,c3.2.1,nP2,fun _=>Iff.rfl⟩,fun k p=>?_,fun k w n e=>K k w (fun e'=>n (e'▸pl)) (fun p=>n ((pp k).2 (.inl p))) e⟩
    · rw[List.filterMap_append,List.filterMap_cons_some (show NI q l r [AV.int .u64 s0]=some (s0,iJ q ((cC q l s0 l.length 0 (([(⟨0,q.ao,q.ai⟩:Gate)])++r)).length - 1) 0 w) by show (dI q l r s0).map _=_;rw[ht];rfl),List.filterMap_nil]
      exact yl.stay i2 c3.1 (Nat.le_refl _) fun k w p e=>c3.2.2 _ _ (nP2 k p).2.2.2.2.2.2 e
    · rcases p with p | p
      · exact (p2 k p).imp (fun h=>(pp k).2 (.inl h)) id
      · exact .inl ((pp k).2 (.inr p))
def sq1:Code→Code
 | .seq a _=>a
 | c=>c
def sq2:Code→Code
 | .seq _ b=>b
 | c=>c
def YU:Code:=sq1 oN
def YV:Code:=sq1 (sq2 oN)
theorem Pf:oN= .seq YU (.seq YV (.block 0 (.rangeFunc (.tmp 15) #[16] js fG))):=by kernel_rfl
theorem Ev.Tv {call:bj} {i:Nat} {b:Code} {s s':St} (h:Ev env call b s .normal s'):Ev env call (.block i b) s .normal s':=by
 obtain ⟨n0,h3⟩:=h
 refine ⟨n0+1,fun n hn=>?_⟩
 obtain ⟨k,rfl⟩:∃k,n=k+1:=⟨n - 1,by omega⟩
 rw[AR,h3 k o!]
 rfl
theorem Xl {d:Nat} {b bn bm:Nat} {n m:Int} {ok:List AV→Prop} {I:List (List AV)→(Nat→Prop)→aw→Prop} (yl:Yl (dh (d+2)) b ok I) (back:∀{L L' P P' hh hk},I L P hh→I L' P' hk→Has hh hk→I L' P hh) (jI:∀s:Nat,(s:Int)<qf .u64 1 n→decide (jX ((s:Nat):Int)=m)=true→ok [AV.int .u64 ((s:Nat):Int)]) (h0:0≤n) (hn:n≤8) {P:Nat→Prop} {hh:aw} (aL:Tidy hh) (gn:hh.get bn=some (.cells [Zi n] 3 false)) (gm:hh.get bm=some (.cells [Zi m] 3 false)) (hi:I [] P hh) (Xa:¬P bn) (Xb:¬P bm):
 ∃hk P',dh (d+3) (.fn 70) [.cO b,.ptr bn 0,.ptr bm 0] hh= .ret (.tuple []) hk∧Tidy hk∧hh.nx≤hk.nx∧I (th m (qf .u64 1 n).toNat 0) P' hk∧(∀j,P' j→P j∨hh.nx≤j)∧Left P hh hk:=by
 obtain ⟨hk,h',P',e,y,n1,i,p,lf,q⟩:=aba yl jI h0 hn aL gn gm hi Xa Xb
 rcases q with rfl | ⟨rfl,A⟩
 · exact ⟨_,P',e,y,n1,i,p,lf⟩
 · exact ⟨_,P,e,aL,Nat.le_refl _,back hi i A,fun _=> .inl,Left.refl _ _⟩
theorem Tw {I:List (Int×List Gate)→(Nat→Prop)→aw→Prop} (back:∀{L L' P P' hh hk},I L P hh→I L' P' hk→Has hh hk→I L' P hh) {g:aw} {q:ay} {l:List az} {r:List Gate} {m:Int} {lv rv:AV} {b bq bm br bl by_ lp:Nat} {x:Nat→AV} {dn:Nat} {L L':List (List AV)} {P P':Nat→Prop} {hh hk:aw} (a:ExI I g q l r m lv rv b bq bm br bl by_ lp x dn L P hh) (a':ExI I g q l r m lv rv b bq bm br bl by_ lp x dn L' P' hk) (A:Has hh hk):ExI I g q l r m lv rv b bq bm br bl by_ lp x dn L' P hh:=by
 obtain ⟨P0,i0,w⟩:=a
 obtain ⟨P1,i1,_⟩:=a'
 exact ⟨P0,back i0 i1 A,w⟩
def kq (q:ay) (l:List az) (r:List Gate) (m:Int):List (Int×List Gate):=(th m (qf .u64 1 ((q.ae.length:Nat):Int)).toNat 0).filterMap (NI q l r)
theorem aef {d:Nat} {g h:aw} {q:ay} {l:List az} {r:List Gate} {m:Int} {lv rv:AV} {b bq bm br bl:Nat} (YT:Tidy g) (hqg:aA.ok g q) (hlg:aP g lv l) (hrg:aP g rv r) (HB:l.length≤18) (hrl:r.length≤1) (hq8:q.ae.length≤8) (hgg:∀k,k<l.length→0≤(l.g k).aD∧(l.g k).aD<(q.ae.length:Int)) (dd:bq<bl∧bl<bm∧bm<br) (gb:g.nx≤bq) (ch:Tidy h) (ag:Has g h) (ngh:g.nx≤h.nx) (gq:h.get bq=some (.cells (aA.c q) 26 false)) (gm:h.get bm=some (.cells [Zi m] 3 false)) (gr:h.get br=some (.cells [rv] 69 false)) (gl:h.get bl=some (.cells [lv] 27 false))
 {ok:aw→List AV→(Int×List Gate)→Prop} {I:List (Int×List Gate)→(Nat→Prop)→aw→Prop} (yl:YlH (dh (d+8)) b ok I) (back:∀{L L' P P' hh hk},I L P hh→I L' P' hk→Has hh hk→I L' P hh) (jI:∀{s0:Int} {w:List Gate} {hk:aw} {p:Nat} {op:Bool},dI q l r s0=some w→hk.get p=some (.cells (List.flatMap (aA.c (α:=Gate)) w) 66 false)→ok hk [.int .u64 s0,.slice p 0 (uJ q l r s0) (uJ q l r s0) op] (s0,w))
 {P:Nat→Prop} (hi:I [] P h) (nP:∀k,P k→g.get k=none∧k≠bq∧k≠bm∧k≠br∧k≠bl):
 ∃hk P',dh (d+11) (.fn 44) [.cO b,.ptr bq 0,.ptr bm 0,.ptr br 0,.ptr bl 0] h= .ret (.tuple []) hk∧Tidy hk∧h.nx≤hk.nx∧I (kq q l r m) P' hk∧(∀j,P' j→P j∨h.nx≤j)∧Left P h hk:=by
 have hq:=aA.mono ag hqg
 have T_q:=ch _ _ gq
 have T_m:=ch _ _ gm
 have T_r:=ch _ _ gr
 have T_l:=ch _ _ gl
 obtain ⟨h1,ct,ck,jj,aW,cr⟩:=iX ch (aR.cells [(AV.cO b)] 86 false)
 have ev0:=pk (d+10) YU ((AV.cO b)::(AV.ptr bq 0)::(AV.ptr bm 0)::(AV.ptr br 0)::(AV.ptr bl 0)::iW 45) h .normal h1 (NN ct (fun i=>(AV.ptr i 0))<|ZZ) (by kernel_rfl)
 have ln2:dN (some (.slice 45)) (some q.aB)=some (AV.int .i64 ((q.ae.length:Nat):Int)):=hq.2.len
 obtain ⟨bn4,bm5,h3,aaU,ia,vD,ib,YW,YX,aiM,aiN⟩:=ahd (d:=d+8) (n:=((q.ae.length:Nat):Int)) (m:=m) ck
 have ev1:=pk (d+10) YV ((AV.cO b)::(AV.ptr bq 0)::(AV.ptr bm 0)::(AV.ptr br 0)::(AV.ptr bl 0)::(AV.ptr h.nx 0)::iW 44) h1 .normal h3 (CC<|MM (aK 24 6 q.aB (cr _ _ gq) (by kernel_rfl))<|VV ln2<|MM (aK 3 0 (AV.int .i64 m) (cr _ _ gm) (by kernel_rfl))<|EE aaU<|ZZ) (by kernel_rfl)
 have T4:=ia _ _ YW
 have T5:=ia _ _ YX
 obtain ⟨h4,n4⟩:=lQ (h:=h3) .uT
 have y4:=fT ia n4
 have x4:=lP n4
 let TS:List AV:=((AV.cO b)::(AV.ptr bq 0)::(AV.ptr bm 0)::(AV.ptr br 0)::(AV.ptr bl 0)::(AV.ptr h.nx 0)::AV.undef::AV.undef::AV.undef::AV.undef::AV.undef::(AV.ptr bq 6)::q.aB::(AV.int .i64 ((q.ae.length:Nat):Int))::(AV.int .i64 m)::(AV.func 70 [] [(AV.ptr bn4 0),(AV.ptr bm5 0)])::iW 34)
 have eTS:TS=lT (fun k=>TS.getD k .undef) b bq bm br bl h.nx:=by kernel_rfl
 obtain ⟨h5,n5⟩:=lQ (h:=h4) (.loop .ready none TS (#[16]:Array Tmp).toList js fG h3.nx)
 have y5:=fT y4 n5
 have x5:=lP n5
 have K5:∀k w,h3.get k=some w→h5.get k=some w:=fun k w e=>fS y4 n5 (fS ia n4 e)
 have K1:∀k w,h.get k=some w→h5.get k=some w:=fun k w e=>K5 k w (ib _ _ (cr _ _ e))
 have g_y:h5.get h.nx=some (.cells [.cO b] 86 false):=K5 _ _ (ib _ _ aW)
 have aeg:∀k,P k→k<h.nx:=yl.aU hi
 have hi5:ExI I g q l r m lv rv b bq bm br bl h.nx h4.nx (fun k=>TS.getD k .undef) h3.nx [] (fun k=>P k∨(∃w,g.get k=some w)∨k=bq∨k=bm∨k=br∨k=bl∨k=h.nx∨k=h4.nx) h5:=
  ⟨P,yl.stay hi y5 o! fun k w _ e=>K1 k w e,fun k w e=>K1 k w (ag _ _ e),by omega,by omega,K1 _ _ gq,K1 _ _ gm,K1 _ _ gr,K1 _ _ gl,g_y,by rw[←eTS];exact jC n5,fun k p=>⟨(nP k p).1,by have:=nP k p;have:=aeg k p;omega⟩,fun _=>Iff.rfl⟩
 have ylx:=abp (d:=d) (g:=g) (q:=q) (l:=l) (r:=r) (m:=m) (lv:=lv) (rv:=rv) (b:=b) (bq:=bq) (bm:=bm) (br:=br) (bl:=bl) (by_:=h.nx) (lp:=h4.nx) (fun k=>TS.getD k .undef) h3.nx YT hqg hlg hrg HB hrl hgg o! gb o! yl jI
 have nb:∀j,h1.nx≤j→j<h4.nx→¬(P j∨(∃w,g.get j=some w)∨j=bq∨j=bm∨j=br∨j=bl∨j=h.nx∨j=h4.nx):=by
  rintro j c1 c2 (p | ⟨w,p⟩ | p)
  · have:=aeg j p;omega
  · have:=YT _ _ p;omega
  · omega
 obtain ⟨h6,P6,e6,y6,x6,i6,p6,l6⟩:=Xl (d:=d+7) (n:=((q.ae.length:Nat):Int)) (m:=m) ylx (fun a b c=>Tw (I:=I) (fun a b c=>back a b c) a b c) (fun s _ _=>⟨(s:Int),rfl⟩) o! o! y5 (K5 _ _ YW) (K5 _ _ YX) hi5 (nb _ o! o!) (nb _ o! o!)
 obtain ⟨P0,i0,ag6,gn6,gx6,gq6,gm6,gr6,gl6,gy6,gp6,nP6,pp6⟩:=i6
 have er:=IM (E:=env) (call:=dh (d+10)) (ts:=TS) (ds:=[]) (f:= .tmp 15) (ps:= #[16]) (aS:=js) (bd:=fG) (e:= .normal) rfl n4 n5 e6 gp6 (by intro c;cases c) rfl
 have ev:=Pf▸Ev.seq (CK (L':=(AV.cO b)::(AV.ptr bq 0)::(AV.ptr bm 0)::(AV.ptr br 0)::(AV.ptr bl 0)::(AV.ptr h.nx 0)::iW 44) (by kernel_rfl) ev0) (Ev.seq (CK (L':=TS) (by kernel_rfl) ev1) (Ev.Tv er))
 have l6':∀k w,h3.get k=some w→h1.nx≤k→h6.get k=some w:=fun k w e c=>l6 _ _ (nb k c (by have:=ia _ _ e;omega)) (K5 _ _ e)
 have gd:h6.get h3.nx=some .uT:=l6 _ _ (nb _ o! o!) (fS y4 n5 (jC n4))
 have c7:=l7 (o:= .loop .exhausted none (lT (fun k=>TS.getD k .undef) b bq bm br bl h.nx) [16] js fG h3.nx) y6 gp6
 have fn:=R8 (args:=[.cO b,.ptr bq 0,.ptr bm 0,.ptr br 0,.ptr bl 0]) (L:=[h3.nx]) (v:= .tuple []) Try.func44 ad8 (by kernel_rfl) (.inl rfl) ev (by simp) (fun k hk=>by rw[List.mem_singleton.1 hk];exact c7.2.2 _ _ o! gd) rfl
 obtain ⟨hk,ek,cs⟩:=iy (M0:=M0) rfl fn
 have KF:∀k w,k≠h4.nx→k≠h3.nx→h6.get k=some w→(shut [h3.nx] (h6.put h4.nx (some (.loop .exhausted none (lT (fun k=>TS.getD k .undef) b bq bm br bl h.nx) [16] js fG h3.nx)))).get k=some w:=fun k w c1 c2 e=>by
  rw[qc (by simpa using c2)];exact c7.2.2 _ _ c1 e
 have yF:Tidy (shut [h3.nx] (h6.put h4.nx (some (.loop .exhausted none (lT (fun k=>TS.getD k .undef) b bq bm br bl h.nx) [16] js fG h3.nx)))):=fun k w gw=>by
  rw[tV]
  by_cases c:k=h3.nx
  · subst c
    rw[shut,shut,aw.bS] at gw;cases gw
  · rw[qc (by simpa using c)] at gw;exact c7.1 _ _ gw
 have nF:h.nx≤(shut [h3.nx] (h6.put h4.nx (some (.loop .exhausted none (lT (fun k=>TS.getD k .undef) b bq bm br bl h.nx) [16] js fG h3.nx)))).nx:=by
  rw[tV];show h.nx≤h6.nx;omega
 have nd:∀k,P0 k→k≠h3.nx:=fun k p c=>by
  subst c
  rcases p6 _ ((pp6 _).2 (.inl p)) with c | c
  · exact nb _ o! o! c
  · omega
 have iF:=yl.stay i0 yF (by rw[tV];exact Nat.le_refl _) fun k w p e=>KF k w (nP6 k p).2.2.2.2.2.2 (nd k p) e
 have pF:∀j,P0 j→P j∨h.nx≤j:=fun j p=>by
  have np:=nP6 j p
  rcases p6 j ((pp6 j).2 (.inl p)) with (c | ⟨w,c⟩ | c) | c
  · exact .inl c
  · have:=np.1;rw[c] at this;cases this
  · omega
  · exact .inr o!
 have lF:Left P h (shut [h3.nx] (h6.put h4.nx (some (.loop .exhausted none (lT (fun k=>TS.getD k .undef) b bq bm br bl h.nx) [16] js fG h3.nx)))):=fun k w n e=>by
  have T:=ch _ _ e
  refine KF k w o! o! ?_
  by_cases c0:∃w',g.get k=some w'
  · obtain ⟨w',c0⟩:=c0
    have:=ag _ _ c0
    rw[e] at this
    rw[ag6 _ _ c0,this]
  · by_cases c1:k=bq
    · subst c1;rw[gq6,←gq,e]
    · by_cases c2:k=bm
      · subst c2;rw[gm6,←gm,e]
      · by_cases c3:k=br
        · subst c3;rw[gr6,←gr,e]
        · by_cases c4:k=bl
          · subst c4;rw[gl6,←gl,e]
          · refine l6 _ _ ?_ (K1 _ _ e)
            rintro (p | p | p)
            · exact n p
            · exact c0 p
            · omega
 rcases cs with rfl | ⟨rfl,A⟩
 · exact ⟨_,P0,ek,yF,nF,iF,pF,lF⟩
 · exact ⟨_,P,ek,ch,Nat.le_refl _,back hi iF A,fun _=> .inl,Left.refl _ _⟩
def qk:Code:=(Try.f76.body).getD .skip
theorem uK:Try.f76.body=some qk:=by kernel_rfl
def AH:Code:=(cu qk).getD 0 .skip
def eO (s:List Gate) (P:Gate→Bool):Nat→Nat→Option (Int)
 | 0,_=>none
 | eH+1,i0=>(bif (P (s.g i0)) then some ((i0:Nat):Int) else eO s P eH (i0+1))
theorem lU {d:Nat} {h:aw} (sV:AV) (g:FuncId) (cap:List AV) (s:List Gate) (P:Gate→Bool) (cH:aP h sV s) (hP:∀y∈s,∀hh,Tidy hh→Has h hh→dh d (.fn g) (.agg (aA.c y)::cap) hh= .ret (.bool (P y)) hh):∀(k_ i_:Nat) (_:i_+k_=s.length) (x:Nat→AV) (hh:aw) (aL:Tidy hh) (bB:Has h hh),ba (dh (d)) AH ⟨(sV::(AV.func g [] cap)::rx x 2 5 ((Zn s.length)::(Zn i_)::rx x 9 10 [])),hh,[],.no⟩ (.exit 0) hh (fun y=>(sV::(AV.func g [] cap)::rx y 2 5 ((Zn s.length)::rx y 8 11 []))) (fun r y=>(sV::(AV.func g [] cap)::(y 2)::(y 3)::(Zi r)::(y 5)::(y 6)::(Zn s.length)::rx y 8 11 [])) (eO s P k_ i_)
 | 0,i0,mR,x,hh,aL,bB=>by
   have kz:=cH.small
   have q1:(decide (((i0:Nat):Int)<((s.length:Nat):Int)))=false:=d!
   exact ba.out rfl (pk (d) _ _ hh _ hh (VV (bU 3 false false .i64 ((i0:Nat):Int) ((s.length:Nat):Int))<|BB q1<|ZZ) k!) (Grow.refl aL) k!
 | eH+1,i0,mR,x,hh,aL,bB=>by
   have kz:=cH.small
   have q1:(decide (((i0:Nat):Int)<((s.length:Nat):Int)))=true:=d!
   obtain ⟨p3,q4,j8⟩:=(cH.has bB).elem (i:=i0) o!
   have vw:dy env (some (.slice 66)) (some sV) (some (Zn i0))=some (AV.ptr p3 q4):=j8
   have yU:bE env hh 66 (AV.ptr p3 q4)=some (AV.agg [(Zi (s.g i0).time),(Zi (s.g i0).ax),(Zi (s.g i0).ar)]):=(cH.has bB).load o! j8
   have k6:=hP (s.g i0) (j7 o!) hh aL bB
   rcases Bool.eq_false_or_eq_true (P (s.g i0)) with f1 | f1
   · exact ba.ret ((i0:Nat):Int) (by simp only[eO,f1,ak,ah]) (pk (d) _ _ hh _ hh (VV (bU 3 false false .i64 ((i0:Nat):Int) ((s.length:Nat):Int))<|BB q1<|CN 5<|VV vw<|MM yU<|EE k6<|BB f1<|CN 2<|ZZ) k!) (Grow.refl aL) k!
   · have u8:=fU 3 false true i0 1 o!
     exact ba.round (by simp only[eO,f1,ak,ah]) (pk (d) _ _ hh _ hh (VV (bU 3 false false .i64 ((i0:Nat):Int) ((s.length:Nat):Int))<|BB q1<|CN 5<|VV vw<|MM yU<|EE k6<|BV f1 u8<|CC<|ZZ) k!) (Grow.refl aL) _ k! (fun x=>lU sV g cap s P cH hP eH (i0+1) o! x hh aL bB)
def bL (s:List Gate) (P:Gate→Bool):Int:=(match (eO s P s.length 0) with | none=>(-1) | some O8=>O8)
theorem DE {d:Nat} {h:aw} {sV:AV} {g:FuncId} {cap:List AV} (s:List Gate) (P:Gate→Bool) (AT:aP h sV s) (hP:∀y∈s,∀hh,Tidy hh→Has h hh→dh d (.fn g) (.agg (aA.c y)::cap) hh= .ret (.bool (P y)) hh) (ch:Tidy h):dh (d+1) (.fn 76) [sV,(AV.func g [] cap)] h= .ret (Zi (bL s P)) h:=by
 have Nr:=AT.small
 have rA:dN (some (.slice 66)) (some sV)=some (Zn s.length):=AT.len
 cases lj:eO s P s.length 0 with
 | none=>
   obtain ⟨YE,h3,jn,oD⟩:=ba.n lj (lU (d:=d) (h:=h) sV g cap s P AT hP s.length 0 o! (fun k_=>((sV::(AV.func g [] cap)::AV.undef::AV.undef::(Zi 0)::AV.undef::sV::(Zn s.length)::(Zi 0)::iW 10):List AV).getD k_ AV.undef) h ch (Has.refl _))
   have ia:=oD.y
   have vD:h.nx≤h3.nx:=oD.n
   have jo:Has h h3:=oD.a
   have e:bL s P=(-1):=by simp only[bL,lj,ak,ah]
   rw[e]
   exact aC rfl (bh Try.func76 uK rfl (.inr rfl) (pk (d) _ _ h _ h3 (CN 2<|VV rA<|CC<|LL jn<|CC<|ZZ) k!) k!) jo rfl
 | some O8=>
   obtain ⟨YE,h3,jn,oD⟩:=ba.r lj (lU (d:=d) (h:=h) sV g cap s P AT hP s.length 0 o! (fun k_=>((sV::(AV.func g [] cap)::AV.undef::AV.undef::(Zi 0)::AV.undef::sV::(Zn s.length)::(Zi 0)::iW 10):List AV).getD k_ AV.undef) h ch (Has.refl _))
   have ia:=oD.y
   have vD:h.nx≤h3.nx:=oD.n
   have jo:Has h h3:=oD.a
   have e:bL s P=O8:=by simp only[bL,lj,ak,ah]
   rw[e]
   exact aC rfl (bh Try.func76 uK rfl (.inr rfl) (pk (d) _ _ h _ h3 (CN 2<|VV rA<|CC<|LL jn<|ZZ) k!) k!) jo rfl
def LW:Code:=(Try.f77.body).getD .skip
theorem Xm:Try.f77.body=some LW:=by kernel_rfl
def fC (o:Gate) (t:Int):Bool:=(decide (o.time=t))
theorem Xn {d:Nat} {h:aw} (o:Gate) (t:Int) (tB:Nat) (h_o:aA.ok h o) (g_t:h.get tB=some (aR.cells [(Zi t)] 3 false)) (ch:Tidy h):dh (d+1) (.fn 77) [(AV.agg [(Zi o.time),(Zi o.ax),(Zi o.ar)]),(Pt tB)] h= .ret (AV.bool (fC o t)) h:=by
 obtain ⟨h1,ct,ck,jj,aW,cr⟩:=iX ch (aR.cells [(Zi o.time),(Zi o.ax),(Zi o.ar)] 66 false)
 have bG:Has h h1:=cr
 have e:fC o t=(decide (o.time=t)):=by simp only[fC,ak,ah]
 rw[e]
 exact aC rfl (bh Try.func77 Xm rfl (.inr rfl) (pk (d) _ _ h _ h1 (NN ct (fun i=>(Pt i))<|CN 2<|MM (aK 3 0 (Zi o.time) aW k!)<|MM (aK 3 0 (Zi t) (cr _ _ g_t) k!)<|VV (lH 3 false false .i64 o.time t)<|CC<|ZZ) k!) k!) bG rfl
def Pg:Code:=(Try.f49.body).getD .skip
theorem abq:Try.f49.body=some Pg:=by kernel_rfl
def jY (c:List Gate) (t:Int):Span:=(⟨(c.g (bL c (fun y=>fC y t)).toNat).ax,(c.g (bL c (fun y=>fC y t)).toNat).ar⟩:Span)
theorem abr {d:Nat} {h:aw} {cV:AV} (c:List Gate) (t:Int) (YD:aP h cV c) (qV:0≤bL c (fun y=>fC y t)) (IN:bL c (fun y=>fC y t)<(c.length:Int)) (ch:Tidy h):dh (d+3) (.fn 49) [cV,(Zi t)] h= .ret (AV.agg [(Zi (jY c t).aU),(Zi (jY c t).aF)]) h:=by
 have aiO:=YD.small
 obtain ⟨h1,ct,ck,jj,aW,cr⟩:=iX ch (aR.cells [(Zi t)] 3 false)
 have bG:Has h h1:=cr
 obtain ⟨h2,pD,jH,GC,fM,hT⟩:=iX ck (aR.cells [(Zi 0),(Zi 0)] 23 false)
 have ke:Has h h2:=bG.trans hT
 have k3:=DE (d:=d+1) c (fun y=>fC y t) (YD.has ke) (fun y hy hh yy aa=>Xn (d:=d) y t h.nx (aA.mono aa ((YD.has ke).Gk y hy)) (aa _ _ (hT _ _ aW)) yy) jH
 obtain ⟨p5,q6,aei⟩:=YD.elem (i:=(bL c (fun y=>fC y t)).toNat) o!
 have Ve:dy env (some (.slice 66)) (some cV) (some (Zi (bL c (fun y=>fC y t))))=some (AV.ptr p5 q6):=by rw[show ((bL c (fun y=>fC y t)):Int)=(((bL c (fun y=>fC y t)).toNat:Nat):Int) by omega];exact aei
 have ld7:bE env h2 23 (AV.ptr p5 (q6+1))=some (AV.agg [(Zi (c.g (bL c (fun y=>fC y t)).toNat).ax),(Zi (c.g (bL c (fun y=>fC y t)).toNat).ar)]):=(YD.has ke).ado (t:=23) (j:=1) (n:=2) o! aei k! k! (by decide) rfl
 obtain ⟨h8,ahn,Xi,ajT,aho,aej⟩:=vq (t:=23) (n:=2) (i:=h1.nx) (L:=[(Zi (c.g (bL c (fun y=>fC y t)).toNat).ax),(Zi (c.g (bL c (fun y=>fC y t)).toNat).ar)]) jH fM k! rfl rfl (by simp only[AV.cells,List.all_cons,List.all_nil,Bool.and_true,Bool.and_self,jd,gK,je,jf,fi,mz,mA,mB,mC,mD,jg])
 have LS:Has h h8:=Has.dr ke aej ch o!
 have e:jY c t=(⟨(c.g (bL c (fun y=>fC y t)).toNat).ax,(c.g (bL c (fun y=>fC y t)).toNat).ar⟩:Span):=by simp only[jY,ak,ah]
 rw[e]
 exact aC rfl (mF (a:=4) (t:=23) (i:=h1.nx) Try.func49 abq rfl (.inr rfl) (pk (d+2) _ _ h _ h8 (NN ct (fun i=>(Pt i))<|NN pD (fun i=>(Pt i))<|CN 3<|EE k3<|VV Ve<|CC<|MM ld7<|SS ahn<|ZZ) k!) k! (qa aho k!)) LS rfl
end
end Go.Proofs.aG
