import Derived.Test.YtaglmdbkfcpbbaaGreatW0
import Derived.Test.YtaglmdbkfcpbbaaGreatW12
import Derived.Test.YtaglmdbkfcpbbaaGreatW5
import Derived.Test.YtaglmdbkfcpbbaaGreatW8
import Derived.Test.YtaglmdbkfcpbbaaGreatW11
import Derived.Test.YtaglmdbkfcpbbaaGreatW9
import Derived.Test.YtaglmdbkfcpbbaaGreatW3
import Derived.Test.YtaglmdbkfcpbbaaGreatW10
import Derived.Test.YtaglmdbkfcpbbaaGreatA7
namespace Go.Proofs.bt
open Go.Proofs Ab
set_option maxRecDepth 100000
set_option maxHeartbeats 4000000
set_option linter.unusedVariables false
set_option linter.unusedSimpArgs false
noncomputable def dw:Code:=(Tryz.f3.body).getD .skip
theorem fm:Tryz.f3.body=some dw:=by kernel_rfl
def cO (t:aK) (l_:List aO) (worker:List UInt8) (ab:Int) (ae:Int) (ready:Int):Bool:=(bif (ov t l_) then true else (bif (decide (100<((List.length worker:Nat):Int))) then true else (bif (!decide ((bw t)=(ay t))) then false else (bif (!decide (((b6 t ab ae).1)=((b7 t ab ae).1))) then false else (bif (!decide (((b6 t ab ae).2)=((b7 t ab ae).2))) then false else (bif (!decide (((bM t l_).2)=((aC t l_).2))) then false else (bif (!(gE ((bM t l_).1) ((aC t l_).1))) then false else (bif (aO.eq ((bL t l_ worker ab ae ready).1) ((bC t l_ worker ab ae ready).1)) then (bif (decide (((bL t l_ worker ab ae ready).2)=((bC t l_ worker ab ae ready).2))) then true else false) else false))))))))
theorem B9 {d:Nat} {h:ar} {bA:AV} (t:aK) (l_:List aO) (worker:List UInt8) (ab:Int) (ae:Int) (ready:Int) (b8:aD.ok h t) (bE:bD h bA l_) (bf:worker.length<2^60) (b4:Tidy h):eD (d+14) (.fn 3) [(AV.agg [t.ak,(AV.int .i64 t.rest),(AV.int .i64 t.day)]),bA,(AV.str worker),(AV.int .i64 ab),(AV.int .i64 ae),(AV.int .i64 ready)] h= .ret (AV.bool (cO t l_ worker ab ae ready)) h:=by
 have pP:=bE.small
 rcases Bool.eq_false_or_eq_true (ov t l_) with f0 | f0
 · obtain ⟨h1,bm,aL,cu,aE,bh⟩:=cj b4 (aH.cells [t.ak,(AV.int .i64 t.rest),(AV.int .i64 t.day)] 24 false)
   have aG:Has h h1:=bh
   have k2:=j6 (d:=d+12) t l_ (aD.mono aG b8) (bE.has aG) aL
   have k4:(eD (d+13)) (.fn 5) [] h1= .ret (.bool true) h1:=rfl
   have ev:=pk (d+13) dw ((AV.agg [t.ak,(AV.int .i64 t.rest),(AV.int .i64 t.day)])::bA::(AV.str worker)::(AV.int .i64 ab)::(AV.int .i64 ae)::(AV.int .i64 ready)::cz 105) h .ret h1 (NN bm (fun i=>(AV.ptr i 0))<|CC<|MM (aw 24 0 (AV.agg [t.ak,(AV.int .i64 t.rest),(AV.int .i64 t.day)]) aE k!)<|CC<|EE k2<|CC<|BB f0<|BB f0<|BB f0<|VV (aX (a:=some (AV.bool true)) (b:=some AV.undef) f0)<|TT<|EE k4<|CC<|ZZ) k!
   have e:cO t l_ worker ab ae ready=true:=by simp only[cO,f0,cond_true,cond_false]
   rw[e]
   exact az rfl (bz Tryz.func3 fm k! (.inr rfl) ev k!) aG rfl
 · rcases Bool.eq_false_or_eq_true (decide (100<((List.length worker:Nat):Int))) with f1 | f1
   · have jn:=of_decide_eq_true f1
     obtain ⟨h1,bm,aL,cu,aE,bh⟩:=cj b4 (aH.cells [t.ak,(AV.int .i64 t.rest),(AV.int .i64 t.day)] 24 false)
     have aG:Has h h1:=bh
     have k2:=j6 (d:=d+12) t l_ (aD.mono aG b8) (bE.has aG) aL
     have O6:worker.length<2^60:=bf
     have k6:(eD (d+13)) (.fn 5) [] h1= .ret (.bool true) h1:=rfl
     have ev:=pk (d+13) dw ((AV.agg [t.ak,(AV.int .i64 t.rest),(AV.int .i64 t.day)])::bA::(AV.str worker)::(AV.int .i64 ab)::(AV.int .i64 ae)::(AV.int .i64 ready)::cz 105) h .ret h1 (NN bm (fun i=>(AV.ptr i 0))<|CC<|MM (aw 24 0 (AV.agg [t.ak,(AV.int .i64 t.rest),(AV.int .i64 t.day)]) aE k!)<|CC<|EE k2<|CC<|BB f0<|CC<|BB f0<|CC<|BB f0<|VV (dA 3 false true .i64 ((List.length worker:Nat):Int) 100)<|VV (aJ (a:=some (AV.bool true)) (b:=some (AV.bool (decide (100<((List.length worker:Nat):Int))))) f0)<|BB f1<|EE k6<|CC<|ZZ) k!
     have e:cO t l_ worker ab ae ready=true:=by simp only[cO,f0,f1,cond_true,cond_false]
     rw[e]
     exact az rfl (bz Tryz.func3 fm k! (.inr rfl) ev k!) aG rfl
   · have jn:=of_decide_eq_false f1
     rcases Bool.eq_false_or_eq_true (!decide ((bw t)=(ay t))) with f2 | f2
     · have np:=sS f2
       obtain ⟨h1,bm,aL,cu,aE,bh⟩:=cj b4 (aH.cells [t.ak,(AV.int .i64 t.rest),(AV.int .i64 t.day)] 24 false)
       have aG:Has h h1:=bh
       have k2:=j6 (d:=d+12) t l_ (aD.mono aG b8) (bE.has aG) aL
       have O6:worker.length<2^60:=bf
       have k6:=ju (d:=d+7) t ab ae (aD.mono aG b8) aL
       have k7:=jv (d:=d+10) t ab ae (aD.mono aG b8) aL
       have k8:=cN (d:=d+8) t (aD.mono aG b8) aL
       have k9:=cg (d:=d+11) t (aD.mono aG b8) aL
       have WZ:AV.same 20 (AV.agg [t.ak,(AV.int .i64 t.rest),(AV.int .i64 t.day)]) (AV.agg [t.ak,(AV.int .i64 t.rest),(AV.int .i64 t.day)])=true:=fq 18 (kz b8.same (kz (fun n=>aQ n _ _) (kz (fun n=>aQ n _ _) Dz)))
       have ev:=pk (d+13) dw ((AV.agg [t.ak,(AV.int .i64 t.rest),(AV.int .i64 t.day)])::bA::(AV.str worker)::(AV.int .i64 ab)::(AV.int .i64 ae)::(AV.int .i64 ready)::cz 105) h .ret h1 (NN bm (fun i=>(AV.ptr i 0))<|CC<|MM (aw 24 0 (AV.agg [t.ak,(AV.int .i64 t.rest),(AV.int .i64 t.day)]) aE k!)<|CC<|EE k2<|CC<|BB f0<|CC<|BB f0<|CC<|BB f0<|VV (dA 3 false true .i64 ((List.length worker:Nat):Int) 100)<|VV (aJ (a:=some (AV.bool true)) (b:=some (AV.bool (decide (100<((List.length worker:Nat):Int))))) f0)<|BB f1<|MM (aw 24 0 (AV.agg [t.ak,(AV.int .i64 t.rest),(AV.int .i64 t.day)]) aE k!)<|CN 2<|EE k6<|CN 5<|MM (aw 24 0 (AV.agg [t.ak,(AV.int .i64 t.rest),(AV.int .i64 t.day)]) aE k!)<|CN 2<|EE k7<|CN 5<|MM (aw 24 0 (AV.agg [t.ak,(AV.int .i64 t.rest),(AV.int .i64 t.day)]) aE k!)<|MM (aw 24 0 (AV.agg [t.ak,(AV.int .i64 t.rest),(AV.int .i64 t.day)]) aE k!)<|EE k8<|EE k9<|VV (cS 28 false false .i64 (bw t) (ay t))<|CC<|BB f2<|BB f2<|BB f2<|VV (aX (a:=some (AV.bool true)) (b:=some AV.undef) f2)<|CC<|TT<|TT<|TT<|CC<|HH (aw 24 0 (AV.agg [t.ak,(AV.int .i64 t.rest),(AV.int .i64 t.day)]) aE k!)<|HH WZ<|HH (aw 24 0 (AV.agg [t.ak,(AV.int .i64 t.rest),(AV.int .i64 t.day)]) aE k!)<|HH WZ<|HH (aw 24 0 (AV.agg [t.ak,(AV.int .i64 t.rest),(AV.int .i64 t.day)]) aE k!)<|HH WZ<|TT<|CC<|ZZ) k!
       have e:cO t l_ worker ab ae ready=false:=by simp only[cO,f0,f1,f2,cond_true,cond_false]
       rw[e]
       exact az rfl (bz Tryz.func3 fm k! (.inr rfl) ev k!) aG rfl
     · have np:=sU f2
       rcases Bool.eq_false_or_eq_true (!decide (((b6 t ab ae).1)=((b7 t ab ae).1))) with f3 | f3
       · have oh:=sS f3
         obtain ⟨h1,bm,aL,cu,aE,bh⟩:=cj b4 (aH.cells [t.ak,(AV.int .i64 t.rest),(AV.int .i64 t.day)] 24 false)
         have aG:Has h h1:=bh
         have k2:=j6 (d:=d+12) t l_ (aD.mono aG b8) (bE.has aG) aL
         have O6:worker.length<2^60:=bf
         have k6:=ju (d:=d+7) t ab ae (aD.mono aG b8) aL
         have k7:=jv (d:=d+10) t ab ae (aD.mono aG b8) aL
         have k8:=cN (d:=d+8) t (aD.mono aG b8) aL
         have k9:=cg (d:=d+11) t (aD.mono aG b8) aL
         have rh:AV.same 20 (AV.agg [t.ak,(AV.int .i64 t.rest),(AV.int .i64 t.day)]) (AV.agg [t.ak,(AV.int .i64 t.rest),(AV.int .i64 t.day)])=true:=fq 18 (kz b8.same (kz (fun n=>aQ n _ _) (kz (fun n=>aQ n _ _) Dz)))
         have ev:=pk (d+13) dw ((AV.agg [t.ak,(AV.int .i64 t.rest),(AV.int .i64 t.day)])::bA::(AV.str worker)::(AV.int .i64 ab)::(AV.int .i64 ae)::(AV.int .i64 ready)::cz 105) h .ret h1 (NN bm (fun i=>(AV.ptr i 0))<|CC<|MM (aw 24 0 (AV.agg [t.ak,(AV.int .i64 t.rest),(AV.int .i64 t.day)]) aE k!)<|CC<|EE k2<|CC<|BB f0<|CC<|BB f0<|CC<|BB f0<|VV (dA 3 false true .i64 ((List.length worker:Nat):Int) 100)<|VV (aJ (a:=some (AV.bool true)) (b:=some (AV.bool (decide (100<((List.length worker:Nat):Int))))) f0)<|BB f1<|MM (aw 24 0 (AV.agg [t.ak,(AV.int .i64 t.rest),(AV.int .i64 t.day)]) aE k!)<|CN 2<|EE k6<|CN 5<|MM (aw 24 0 (AV.agg [t.ak,(AV.int .i64 t.rest),(AV.int .i64 t.day)]) aE k!)<|CN 2<|EE k7<|CN 5<|MM (aw 24 0 (AV.agg [t.ak,(AV.int .i64 t.rest),(AV.int .i64 t.day)]) aE k!)<|MM (aw 24 0 (AV.agg [t.ak,(AV.int .i64 t.rest),(AV.int .i64 t.day)]) aE k!)<|EE k8<|EE k9<|VV (cS 28 false false .i64 (bw t) (ay t))<|CC<|BB f2<|CC<|BB f2<|CC<|BB f2<|VV (cS 3 false false .i64 ((b6 t ab ae).1) ((b7 t ab ae).1))<|VV (aJ (a:=some (AV.bool true)) (b:=some (AV.bool (!decide (((b6 t ab ae).1)=((b7 t ab ae).1))))) f2)<|CC<|BB f3<|BB f3<|BB f3<|VV (aX (a:=some (AV.bool true)) (b:=some AV.undef) f3)<|HH (aw 24 0 (AV.agg [t.ak,(AV.int .i64 t.rest),(AV.int .i64 t.day)]) aE k!)<|HH rh<|HH (aw 24 0 (AV.agg [t.ak,(AV.int .i64 t.rest),(AV.int .i64 t.day)]) aE k!)<|HH rh<|HH (aw 24 0 (AV.agg [t.ak,(AV.int .i64 t.rest),(AV.int .i64 t.day)]) aE k!)<|HH rh<|TT<|CC<|ZZ) k!
         have e:cO t l_ worker ab ae ready=false:=by simp only[cO,f0,f1,f2,f3,cond_true,cond_false]
         rw[e]
         exact az rfl (bz Tryz.func3 fm k! (.inr rfl) ev k!) aG rfl
       · have oh:=sU f3
         rcases Bool.eq_false_or_eq_true (!decide (((b6 t ab ae).2)=((b7 t ab ae).2))) with f4 | f4
         · have om:=sS f4
           obtain ⟨h1,bm,aL,cu,aE,bh⟩:=cj b4 (aH.cells [t.ak,(AV.int .i64 t.rest),(AV.int .i64 t.day)] 24 false)
           have aG:Has h h1:=bh
           have k2:=j6 (d:=d+12) t l_ (aD.mono aG b8) (bE.has aG) aL
           have O6:worker.length<2^60:=bf
           have k6:=ju (d:=d+7) t ab ae (aD.mono aG b8) aL
           have k7:=jv (d:=d+10) t ab ae (aD.mono aG b8) aL
           have k8:=cN (d:=d+8) t (aD.mono aG b8) aL
           have k9:=cg (d:=d+11) t (aD.mono aG b8) aL
           have rh:AV.same 20 (AV.agg [t.ak,(AV.int .i64 t.rest),(AV.int .i64 t.day)]) (AV.agg [t.ak,(AV.int .i64 t.rest),(AV.int .i64 t.day)])=true:=fq 18 (kz b8.same (kz (fun n=>aQ n _ _) (kz (fun n=>aQ n _ _) Dz)))
           have ev:=pk (d+13) dw ((AV.agg [t.ak,(AV.int .i64 t.rest),(AV.int .i64 t.day)])::bA::(AV.str worker)::(AV.int .i64 ab)::(AV.int .i64 ae)::(AV.int .i64 ready)::cz 105) h .ret h1 (NN bm (fun i=>(AV.ptr i 0))<|CC<|MM (aw 24 0 (AV.agg [t.ak,(AV.int .i64 t.rest),(AV.int .i64 t.day)]) aE k!)<|CC<|EE k2<|CC<|BB f0<|CC<|BB f0<|CC<|BB f0<|VV (dA 3 false true .i64 ((List.length worker:Nat):Int) 100)<|VV (aJ (a:=some (AV.bool true)) (b:=some (AV.bool (decide (100<((List.length worker:Nat):Int))))) f0)<|BB f1<|MM (aw 24 0 (AV.agg [t.ak,(AV.int .i64 t.rest),(AV.int .i64 t.day)]) aE k!)<|CN 2<|EE k6<|CN 5<|MM (aw 24 0 (AV.agg [t.ak,(AV.int .i64 t.rest),(AV.int .i64 t.day)]) aE k!)<|CN 2<|EE k7<|CN 5<|MM (aw 24 0 (AV.agg [t.ak,(AV.int .i64 t.rest),(AV.int .i64 t.day)]) aE k!)<|MM (aw 24 0 (AV.agg [t.ak,(AV.int .i64 t.rest),(AV.int .i64 t.day)]) aE k!)<|EE k8<|EE k9<|VV (cS 28 false false .i64 (bw t) (ay t))<|CC<|BB f2<|CC<|BB f2<|CC<|BB f2<|VV (cS 3 false false .i64 ((b6 t ab ae).1) ((b7 t ab ae).1))<|VV (aJ (a:=some (AV.bool true)) (b:=some (AV.bool (!decide (((b6 t ab ae).1)=((b7 t ab ae).1))))) f2)<|CC<|BB f3<|CC<|BB f3<|CC<|BB f3<|VV (cS 28 false false .i64 ((b6 t ab ae).2) ((b7 t ab ae).2))<|VV (aJ (a:=some (AV.bool true)) (b:=some (AV.bool (!decide (((b6 t ab ae).2)=((b7 t ab ae).2))))) f3)<|HH (aw 24 0 (AV.agg [t.ak,(AV.int .i64 t.rest),(AV.int .i64 t.day)]) aE k!)<|HH rh<|HH (aw 24 0 (AV.agg [t.ak,(AV.int .i64 t.rest),(AV.int .i64 t.day)]) aE k!)<|HH rh<|HH (aw 24 0 (AV.agg [t.ak,(AV.int .i64 t.rest),(AV.int .i64 t.day)]) aE k!)<|HH rh<|BB f4<|CC<|ZZ) k!
           have e:cO t l_ worker ab ae ready=false:=by simp only[cO,f0,f1,f2,f3,f4,cond_true,cond_false]
           rw[e]
           exact az rfl (bz Tryz.func3 fm k! (.inr rfl) ev k!) aG rfl
         · have om:=sU f4
           rcases Bool.eq_false_or_eq_true (!decide (((bM t l_).2)=((aC t l_).2))) with f5 | f5
           · have ri:=sS f5
             obtain ⟨h1,bm,aL,cu,aE,bh⟩:=cj b4 (aH.cells [t.ak,(AV.int .i64 t.rest),(AV.int .i64 t.day)] 24 false)
             have aG:Has h h1:=bh
             have k2:=j6 (d:=d+12) t l_ (aD.mono aG b8) (bE.has aG) aL
             have O6:worker.length<2^60:=bf
             have k6:=ju (d:=d+7) t ab ae (aD.mono aG b8) aL
             have k7:=jv (d:=d+10) t ab ae (aD.mono aG b8) aL
             have k8:=cN (d:=d+8) t (aD.mono aG b8) aL
             have k9:=cg (d:=d+11) t (aD.mono aG b8) aL
             have rh:AV.same 20 (AV.agg [t.ak,(AV.int .i64 t.rest),(AV.int .i64 t.day)]) (AV.agg [t.ak,(AV.int .i64 t.rest),(AV.int .i64 t.day)])=true:=fq 18 (kz b8.same (kz (fun n=>aQ n _ _) (kz (fun n=>aQ n _ _) Dz)))
             obtain ⟨UO,n4,uK,gJ,vK,Ho⟩:=fb (d:=d+5) t l_ (aD.mono aG b8) (bE.has aG) aL
             have lq:=gJ.y
             have Hp:h1.nx≤n4.nx:=gJ.n
             have jb:Has h n4:=aG.trans gJ.a
             have B_:=vK.small
             obtain ⟨UP,mJ,uL,gK,vL,Hq⟩:=dK (d:=d+10) t l_ (aD.mono jb b8) (bE.has jb) lq
             have iK:=gK.y
             have Hr:n4.nx≤mJ.nx:=gK.n
             have j4:Has h mJ:=jb.trans gK.a
             have ig:Has n4 mJ:=gK.a
             have B':=vL.small
             have ev:=pk (d+13) dw ((AV.agg [t.ak,(AV.int .i64 t.rest),(AV.int .i64 t.day)])::bA::(AV.str worker)::(AV.int .i64 ab)::(AV.int .i64 ae)::(AV.int .i64 ready)::cz 105) h .ret mJ (NN bm (fun i=>(AV.ptr i 0))<|CC<|MM (aw 24 0 (AV.agg [t.ak,(AV.int .i64 t.rest),(AV.int .i64 t.day)]) aE k!)<|CC<|EE k2<|CC<|BB f0<|CC<|BB f0<|CC<|BB f0<|VV (dA 3 false true .i64 ((List.length worker:Nat):Int) 100)<|VV (aJ (a:=some (AV.bool true)) (b:=some (AV.bool (decide (100<((List.length worker:Nat):Int))))) f0)<|BB f1<|MM (aw 24 0 (AV.agg [t.ak,(AV.int .i64 t.rest),(AV.int .i64 t.day)]) aE k!)<|CN 2<|EE k6<|CN 5<|MM (aw 24 0 (AV.agg [t.ak,(AV.int .i64 t.rest),(AV.int .i64 t.day)]) aE k!)<|CN 2<|EE k7<|CN 5<|MM (aw 24 0 (AV.agg [t.ak,(AV.int .i64 t.rest),(AV.int .i64 t.day)]) aE k!)<|MM (aw 24 0 (AV.agg [t.ak,(AV.int .i64 t.rest),(AV.int .i64 t.day)]) aE k!)<|EE k8<|EE k9<|VV (cS 28 false false .i64 (bw t) (ay t))<|CC<|BB f2<|CC<|BB f2<|CC<|BB f2<|VV (cS 3 false false .i64 ((b6 t ab ae).1) ((b7 t ab ae).1))<|VV (aJ (a:=some (AV.bool true)) (b:=some (AV.bool (!decide (((b6 t ab ae).1)=((b7 t ab ae).1))))) f2)<|CC<|BB f3<|CC<|BB f3<|CC<|BB f3<|VV (cS 28 false false .i64 ((b6 t ab ae).2) ((b7 t ab ae).2))<|VV (aJ (a:=some (AV.bool true)) (b:=some (AV.bool (!decide (((b6 t ab ae).2)=((b7 t ab ae).2))))) f3)<|HH (aw 24 0 (AV.agg [t.ak,(AV.int .i64 t.rest),(AV.int .i64 t.day)]) aE k!)<|HH rh<|HH (aw 24 0 (AV.agg [t.ak,(AV.int .i64 t.rest),(AV.int .i64 t.day)]) aE k!)<|HH rh<|HH (aw 24 0 (AV.agg [t.ak,(AV.int .i64 t.rest),(AV.int .i64 t.day)]) aE k!)<|HH rh<|BB f4<|MM (aw 24 0 (AV.agg [t.ak,(AV.int .i64 t.rest),(AV.int .i64 t.day)]) aE k!)<|CC<|EE uK<|CN 5<|MM (aw 24 0 (AV.agg [t.ak,(AV.int .i64 t.rest),(AV.int .i64 t.day)]) (gJ.a _ _ aE) k!)<|CC<|EE uL<|CN 7<|VV (cS 28 false false .i64 ((bM t l_).2) ((aC t l_).2))<|CC<|BB f5<|BB f5<|BB f5<|BB f5<|VV (aX (a:=some (AV.bool true)) (b:=some AV.undef) f5)<|TT<|CC<|ZZ) k!
             have e:cO t l_ worker ab ae ready=false:=by simp only[cO,f0,f1,f2,f3,f4,f5,cond_true,cond_false]
             rw[e]
             exact az rfl (bz Tryz.func3 fm k! (.inr rfl) ev k!) j4 rfl
           · have ri:=sU f5
             rcases Bool.eq_false_or_eq_true (!(gE ((bM t l_).1) ((aC t l_).1))) with f6 | f6
             · obtain ⟨h1,bm,aL,cu,aE,bh⟩:=cj b4 (aH.cells [t.ak,(AV.int .i64 t.rest),(AV.int .i64 t.day)] 24 false)
               have aG:Has h h1:=bh
               have k2:=j6 (d:=d+12) t l_ (aD.mono aG b8) (bE.has aG) aL
               have O6:worker.length<2^60:=bf
               have k6:=ju (d:=d+7) t ab ae (aD.mono aG b8) aL
               have k7:=jv (d:=d+10) t ab ae (aD.mono aG b8) aL
               have k8:=cN (d:=d+8) t (aD.mono aG b8) aL
               have k9:=cg (d:=d+11) t (aD.mono aG b8) aL
               have rh:AV.same 20 (AV.agg [t.ak,(AV.int .i64 t.rest),(AV.int .i64 t.day)]) (AV.agg [t.ak,(AV.int .i64 t.rest),(AV.int .i64 t.day)])=true:=fq 18 (kz b8.same (kz (fun n=>aQ n _ _) (kz (fun n=>aQ n _ _) Dz)))
               obtain ⟨UO,n4,uK,gJ,vK,Ho⟩:=fb (d:=d+5) t l_ (aD.mono aG b8) (bE.has aG) aL
               have lq:=gJ.y
               have Hp:h1.nx≤n4.nx:=gJ.n
               have jb:Has h n4:=aG.trans gJ.a
               have B_:=vK.small
               obtain ⟨UP,mJ,uL,gK,vL,Hq⟩:=dK (d:=d+10) t l_ (aD.mono jb b8) (bE.has jb) lq
               have iK:=gK.y
               have Hr:n4.nx≤mJ.nx:=gK.n
               have j4:Has h mJ:=jb.trans gK.a
               have ig:Has n4 mJ:=gK.a
               have B':=vL.small
               have NF:=pY (d:=d+12) ((bM t l_).1) ((aC t l_).1) (vK.has ig) vL iK
               have ev:=pk (d+13) dw ((AV.agg [t.ak,(AV.int .i64 t.rest),(AV.int .i64 t.day)])::bA::(AV.str worker)::(AV.int .i64 ab)::(AV.int .i64 ae)::(AV.int .i64 ready)::cz 105) h .ret mJ (NN bm (fun i=>(AV.ptr i 0))<|CC<|MM (aw 24 0 (AV.agg [t.ak,(AV.int .i64 t.rest),(AV.int .i64 t.day)]) aE k!)<|CC<|EE k2<|CC<|BB f0<|CC<|BB f0<|CC<|BB f0<|VV (dA 3 false true .i64 ((List.length worker:Nat):Int) 100)<|VV (aJ (a:=some (AV.bool true)) (b:=some (AV.bool (decide (100<((List.length worker:Nat):Int))))) f0)<|BB f1<|MM (aw 24 0 (AV.agg [t.ak,(AV.int .i64 t.rest),(AV.int .i64 t.day)]) aE k!)<|CN 2<|EE k6<|CN 5<|MM (aw 24 0 (AV.agg [t.ak,(AV.int .i64 t.rest),(AV.int .i64 t.day)]) aE k!)<|CN 2<|EE k7<|CN 5<|MM (aw 24 0 (AV.agg [t.ak,(AV.int .i64 t.rest),(AV.int .i64 t.day)]) aE k!)<|MM (aw 24 0 (AV.agg [t.ak,(AV.int .i64 t.rest),(AV.int .i64 t.day)]) aE k!)<|EE k8<|EE k9<|VV (cS 28 false false .i64 (bw t) (ay t))<|CC<|BB f2<|CC<|BB f2<|CC<|BB f2<|VV (cS 3 false false .i64 ((b6 t ab ae).1) ((b7 t ab ae).1))<|VV (aJ (a:=some (AV.bool true)) (b:=some (AV.bool (!decide (((b6 t ab ae).1)=((b7 t ab ae).1))))) f2)<|CC<|BB f3<|CC<|BB f3<|CC<|BB f3<|VV (cS 28 false false .i64 ((b6 t ab ae).2) ((b7 t ab ae).2))<|VV (aJ (a:=some (AV.bool true)) (b:=some (AV.bool (!decide (((b6 t ab ae).2)=((b7 t ab ae).2))))) f3)<|HH (aw 24 0 (AV.agg [t.ak,(AV.int .i64 t.rest),(AV.int .i64 t.day)]) aE k!)<|HH rh<|HH (aw 24 0 (AV.agg [t.ak,(AV.int .i64 t.rest),(AV.int .i64 t.day)]) aE k!)<|HH rh<|HH (aw 24 0 (AV.agg [t.ak,(AV.int .i64 t.rest),(AV.int .i64 t.day)]) aE k!)<|HH rh<|BB f4<|MM (aw 24 0 (AV.agg [t.ak,(AV.int .i64 t.rest),(AV.int .i64 t.day)]) aE k!)<|CC<|EE uK<|CN 5<|MM (aw 24 0 (AV.agg [t.ak,(AV.int .i64 t.rest),(AV.int .i64 t.day)]) (gJ.a _ _ aE) k!)<|CC<|EE uL<|CN 7<|VV (cS 28 false false .i64 ((bM t l_).2) ((aC t l_).2))<|CC<|BB f5<|CC<|BB f5<|CC<|BB f5<|EE NF<|BB f5<|CC<|VV (aJ (a:=some (AV.bool true)) (b:=some (AV.bool (!(gE ((bM t l_).1) ((aC t l_).1))))) f5)<|BB f6<|CC<|ZZ) k!
               have e:cO t l_ worker ab ae ready=false:=by simp only[cO,f0,f1,f2,f3,f4,f5,f6,cond_true,cond_false]
               rw[e]
               exact az rfl (bz Tryz.func3 fm k! (.inr rfl) ev k!) j4 rfl
             · rcases Bool.eq_false_or_eq_true (aO.eq ((bL t l_ worker ab ae ready).1) ((bC t l_ worker ab ae ready).1)) with f7 | f7
               · rcases Bool.eq_false_or_eq_true (decide (((bL t l_ worker ab ae ready).2)=((bC t l_ worker ab ae ready).2))) with f8 | f8
                 · have K0:=of_decide_eq_true f8
                   obtain ⟨h1,bm,aL,cu,aE,bh⟩:=cj b4 (aH.cells [t.ak,(AV.int .i64 t.rest),(AV.int .i64 t.day)] 24 false)
                   have aG:Has h h1:=bh
                   have k2:=j6 (d:=d+12) t l_ (aD.mono aG b8) (bE.has aG) aL
                   have O6:worker.length<2^60:=bf
                   have k6:=ju (d:=d+7) t ab ae (aD.mono aG b8) aL
                   have k7:=jv (d:=d+10) t ab ae (aD.mono aG b8) aL
                   have k8:=cN (d:=d+8) t (aD.mono aG b8) aL
                   have k9:=cg (d:=d+11) t (aD.mono aG b8) aL
                   have rh:AV.same 20 (AV.agg [t.ak,(AV.int .i64 t.rest),(AV.int .i64 t.day)]) (AV.agg [t.ak,(AV.int .i64 t.rest),(AV.int .i64 t.day)])=true:=fq 18 (kz b8.same (kz (fun n=>aQ n _ _) (kz (fun n=>aQ n _ _) Dz)))
                   obtain ⟨UO,n4,uK,gJ,vK,Ho⟩:=fb (d:=d+5) t l_ (aD.mono aG b8) (bE.has aG) aL
                   have lq:=gJ.y
                   have Hp:h1.nx≤n4.nx:=gJ.n
                   have jb:Has h n4:=aG.trans gJ.a
                   have B_:=vK.small
                   obtain ⟨UP,mJ,uL,gK,vL,Hq⟩:=dK (d:=d+10) t l_ (aD.mono jb b8) (bE.has jb) lq
                   have iK:=gK.y
                   have Hr:n4.nx≤mJ.nx:=gK.n
                   have j4:Has h mJ:=jb.trans gK.a
                   have ig:Has n4 mJ:=gK.a
                   have B':=vL.small
                   have NF:=pY (d:=d+12) ((bM t l_).1) ((aC t l_).1) (vK.has ig) vL iK
                   have KH:=yY (d:=d) t l_ worker ab ae ready (aD.mono j4 b8) (bE.has j4) bf iK
                   obtain ⟨p_,Ed,mD,LI,zi,n7⟩:=cj iK (aH.cells [(AV.str []),(AV.int .i64 0),(AV.int .i64 0),(AV.int .i64 0),(AV.int .i64 0)] 37 false)
                   have rA:Has h p_:=j4.trans n7
                   have o6:Has n4 p_:=ig.trans n7
                   have o7:Has mJ p_:=n7
                   obtain ⟨AF,Ee,qg,Hf,uE,kY⟩:=dW (t:=37) (n:=5) (i:=mJ.nx) (L:=[(AV.str (((bL t l_ worker ab ae ready).1).worker)),(AV.int .i64 (((bL t l_ worker ab ae ready).1).ab)),(AV.int .i64 (((bL t l_ worker ab ae ready).1).aP)),(AV.int .i64 (((bL t l_ worker ab ae ready).1).leave)),(AV.int .i64 (((bL t l_ worker ab ae ready).1).out))]) mD zi k! rfl rfl (by simp only[AV.cells,List.all_cons,List.all_nil,Bool.and_true,Bool.and_self,bP,bB,bQ,bR,bl,cm,cn,cq,cr,ct,bS])
                   have nC:Has h AF:=Has.aU rA kY b4 o!
                   have o8:Has n4 AF:=Has.aU o6 kY lq o!
                   have o9:Has mJ AF:=Has.aU o7 kY iK o!
                   have Qb:=zg (d:=d+9) t l_ worker ab ae ready (aD.mono nC b8) (bE.has nC) bf qg
                   obtain ⟨D_,Ef,rB,Hk,su,n8⟩:=cj qg (aH.cells [(AV.str []),(AV.int .i64 0),(AV.int .i64 0),(AV.int .i64 0),(AV.int .i64 0)] 37 false)
                   have uI:Has h D_:=nC.trans n8
                   have o_:Has n4 D_:=o8.trans n8
                   have pa:Has mJ D_:=o9.trans n8
                   obtain ⟨zr,Eg,AG,Hg,uF,kZ⟩:=dW (t:=37) (n:=5) (i:=AF.nx) (L:=[(AV.str (((bC t l_ worker ab ae ready).1).worker)),(AV.int .i64 (((bC t l_ worker ab ae ready).1).ab)),(AV.int .i64 (((bC t l_ worker ab ae ready).1).aP)),(AV.int .i64 (((bC t l_ worker ab ae ready).1).leave)),(AV.int .i64 (((bC t l_ worker ab ae ready).1).out))]) rB su k! rfl rfl (by simp only[AV.cells,List.all_cons,List.all_nil,Bool.and_true,Bool.and_self,bP,bB,bQ,bR,bl,cm,cn,cq,cr,ct,bS])
                   have uG:Has h zr:=Has.aU uI kZ b4 o!
                   have AJ:Has n4 zr:=Has.aU o_ kZ lq o!
                   have AK:Has mJ zr:=Has.aU pa kZ iK o!
                   have T4:eW env .eql 37 false false (some (AV.agg [(AV.str (((bL t l_ worker ab ae ready).1).worker)),(AV.int .i64 (((bL t l_ worker ab ae ready).1).ab)),(AV.int .i64 (((bL t l_ worker ab ae ready).1).aP)),(AV.int .i64 (((bL t l_ worker ab ae ready).1).leave)),(AV.int .i64 (((bL t l_ worker ab ae ready).1).out))])) (some (AV.agg [(AV.str (((bC t l_ worker ab ae ready).1).worker)),(AV.int .i64 (((bC t l_ worker ab ae ready).1).ab)),(AV.int .i64 (((bC t l_ worker ab ae ready).1).aP)),(AV.int .i64 (((bC t l_ worker ab ae ready).1).leave)),(AV.int .i64 (((bC t l_ worker ab ae ready).1).out))]))=some (AV.bool (aO.eq ((bL t l_ worker ab ae ready).1) ((bC t l_ worker ab ae ready).1))):=aO.eql ((bL t l_ worker ab ae ready).1) ((bC t l_ worker ab ae ready).1)
                   have V0:(eD (d+13)) (.fn 5) [] zr= .ret (.bool true) zr:=rfl
                   have ev:=pk (d+13) dw ((AV.agg [t.ak,(AV.int .i64 t.rest),(AV.int .i64 t.day)])::bA::(AV.str worker)::(AV.int .i64 ab)::(AV.int .i64 ae)::(AV.int .i64 ready)::cz 105) h .ret zr (NN bm (fun i=>(AV.ptr i 0))<|CC<|MM (aw 24 0 (AV.agg [t.ak,(AV.int .i64 t.rest),(AV.int .i64 t.day)]) aE k!)<|CC<|EE k2<|CC<|BB f0<|CC<|BB f0<|CC<|BB f0<|VV (dA 3 false true .i64 ((List.length worker:Nat):Int) 100)<|VV (aJ (a:=some (AV.bool true)) (b:=some (AV.bool (decide (100<((List.length worker:Nat):Int))))) f0)<|BB f1<|MM (aw 24 0 (AV.agg [t.ak,(AV.int .i64 t.rest),(AV.int .i64 t.day)]) aE k!)<|CN 2<|EE k6<|CN 5<|MM (aw 24 0 (AV.agg [t.ak,(AV.int .i64 t.rest),(AV.int .i64 t.day)]) aE k!)<|CN 2<|EE k7<|CN 5<|MM (aw 24 0 (AV.agg [t.ak,(AV.int .i64 t.rest),(AV.int .i64 t.day)]) aE k!)<|MM (aw 24 0 (AV.agg [t.ak,(AV.int .i64 t.rest),(AV.int .i64 t.day)]) aE k!)<|EE k8<|EE k9<|VV (cS 28 false false .i64 (bw t) (ay t))<|CC<|BB f2<|CC<|BB f2<|CC<|BB f2<|VV (cS 3 false false .i64 ((b6 t ab ae).1) ((b7 t ab ae).1))<|VV (aJ (a:=some (AV.bool true)) (b:=some (AV.bool (!decide (((b6 t ab ae).1)=((b7 t ab ae).1))))) f2)<|CC<|BB f3<|CC<|BB f3<|CC<|BB f3<|VV (cS 28 false false .i64 ((b6 t ab ae).2) ((b7 t ab ae).2))<|VV (aJ (a:=some (AV.bool true)) (b:=some (AV.bool (!decide (((b6 t ab ae).2)=((b7 t ab ae).2))))) f3)<|HH (aw 24 0 (AV.agg [t.ak,(AV.int .i64 t.rest),(AV.int .i64 t.day)]) aE k!)<|HH rh<|HH (aw 24 0 (AV.agg [t.ak,(AV.int .i64 t.rest),(AV.int .i64 t.day)]) aE k!)<|HH rh<|HH (aw 24 0 (AV.agg [t.ak,(AV.int .i64 t.rest),(AV.int .i64 t.day)]) aE k!)<|HH rh<|BB f4<|MM (aw 24 0 (AV.agg [t.ak,(AV.int .i64 t.rest),(AV.int .i64 t.day)]) aE k!)<|CC<|EE uK<|CN 5<|MM (aw 24 0 (AV.agg [t.ak,(AV.int .i64 t.rest),(AV.int .i64 t.day)]) (gJ.a _ _ aE) k!)<|CC<|EE uL<|CN 7<|VV (cS 28 false false .i64 ((bM t l_).2) ((aC t l_).2))<|CC<|BB f5<|CC<|BB f5<|CC<|BB f5<|EE NF<|BB f5<|CC<|VV (aJ (a:=some (AV.bool true)) (b:=some (AV.bool (!(gE ((bM t l_).1) ((aC t l_).1))))) f5)<|BB f6<|MM (aw 24 0 (AV.agg [t.ak,(AV.int .i64 t.rest),(AV.int .i64 t.day)]) (gK.a _ _ (gJ.a _ _ aE)) k!)<|CN 5<|EE KH<|CN 3<|NN Ed (fun i=>(AV.ptr i 0))<|SS Ee<|CC<|MM (aw 24 0 (AV.agg [t.ak,(AV.int .i64 t.rest),(AV.int .i64 t.day)]) (kY _ _ o! (n7 _ _ (gK.a _ _ (gJ.a _ _ aE)))) k!)<|CN 5<|EE Qb<|CN 3<|NN Ef (fun i=>(AV.ptr i 0))<|SS Eg<|CC<|MM (aw 37 0 (AV.agg [(AV.str (((bL t l_ worker ab ae ready).1).worker)),(AV.int .i64 (((bL t l_ worker ab ae ready).1).ab)),(AV.int .i64 (((bL t l_ worker ab ae ready).1).aP)),(AV.int .i64 (((bL t l_ worker ab ae ready).1).leave)),(AV.int .i64 (((bL t l_ worker ab ae ready).1).out))]) (kZ _ _ o! (n8 _ _ uE)) k!)<|MM (aw 37 0 (AV.agg [(AV.str (((bC t l_ worker ab ae ready).1).worker)),(AV.int .i64 (((bC t l_ worker ab ae ready).1).ab)),(AV.int .i64 (((bC t l_ worker ab ae ready).1).aP)),(AV.int .i64 (((bC t l_ worker ab ae ready).1).leave)),(AV.int .i64 (((bC t l_ worker ab ae ready).1).out))]) uF k!)<|VV T4<|CC<|BB f7<|CC<|BB f7<|CC<|BB f7<|VV (dC 28 false false .i64 ((bL t l_ worker ab ae ready).2) ((bC t l_ worker ab ae ready).2))<|VV (aX (a:=some (AV.bool (decide (((bL t l_ worker ab ae ready).2)=((bC t l_ worker ab ae ready).2))))) (b:=some (AV.bool false)) f7)<|CC<|BB f8<|EE V0<|VV (aX (a:=some (AV.bool true)) (b:=some (AV.bool false)) f8)<|CC<|ZZ) k!
                   have e:cO t l_ worker ab ae ready=true:=by simp only[cO,f0,f1,f2,f3,f4,f5,f6,f7,f8,cond_true,cond_false]
                   rw[e]
                   exact az rfl (bz Tryz.func3 fm k! (.inr rfl) ev k!) uG rfl
                 · have K0:=of_decide_eq_false f8
                   obtain ⟨h1,bm,aL,cu,aE,bh⟩:=cj b4 (aH.cells [t.ak,(AV.int .i64 t.rest),(AV.int .i64 t.day)] 24 false)
                   have aG:Has h h1:=bh
                   have k2:=j6 (d:=d+12) t l_ (aD.mono aG b8) (bE.has aG) aL
                   have O6:worker.length<2^60:=bf
                   have k6:=ju (d:=d+7) t ab ae (aD.mono aG b8) aL
                   have k7:=jv (d:=d+10) t ab ae (aD.mono aG b8) aL
                   have k8:=cN (d:=d+8) t (aD.mono aG b8) aL
                   have k9:=cg (d:=d+11) t (aD.mono aG b8) aL
                   have rh:AV.same 20 (AV.agg [t.ak,(AV.int .i64 t.rest),(AV.int .i64 t.day)]) (AV.agg [t.ak,(AV.int .i64 t.rest),(AV.int .i64 t.day)])=true:=fq 18 (kz b8.same (kz (fun n=>aQ n _ _) (kz (fun n=>aQ n _ _) Dz)))
                   obtain ⟨UO,n4,uK,gJ,vK,Ho⟩:=fb (d:=d+5) t l_ (aD.mono aG b8) (bE.has aG) aL
                   have lq:=gJ.y
                   have Hp:h1.nx≤n4.nx:=gJ.n
                   have jb:Has h n4:=aG.trans gJ.a
                   have B_:=vK.small
                   obtain ⟨UP,mJ,uL,gK,vL,Hq⟩:=dK (d:=d+10) t l_ (aD.mono jb b8) (bE.has jb) lq
                   have iK:=gK.y
                   have Hr:n4.nx≤mJ.nx:=gK.n
                   have j4:Has h mJ:=jb.trans gK.a
                   have ig:Has n4 mJ:=gK.a
                   have B':=vL.small
                   have NF:=pY (d:=d+12) ((bM t l_).1) ((aC t l_).1) (vK.has ig) vL iK
                   have KH:=yY (d:=d) t l_ worker ab ae ready (aD.mono j4 b8) (bE.has j4) bf iK
                   obtain ⟨p_,Ed,mD,LI,zi,n7⟩:=cj iK (aH.cells [(AV.str []),(AV.int .i64 0),(AV.int .i64 0),(AV.int .i64 0),(AV.int .i64 0)] 37 false)
                   have rA:Has h p_:=j4.trans n7
                   have o6:Has n4 p_:=ig.trans n7
                   have o7:Has mJ p_:=n7
                   obtain ⟨AF,Ee,qg,Hf,uE,kY⟩:=dW (t:=37) (n:=5) (i:=mJ.nx) (L:=[(AV.str (((bL t l_ worker ab ae ready).1).worker)),(AV.int .i64 (((bL t l_ worker ab ae ready).1).ab)),(AV.int .i64 (((bL t l_ worker ab ae ready).1).aP)),(AV.int .i64 (((bL t l_ worker ab ae ready).1).leave)),(AV.int .i64 (((bL t l_ worker ab ae ready).1).out))]) mD zi k! rfl rfl (by simp only[AV.cells,List.all_cons,List.all_nil,Bool.and_true,Bool.and_self,bP,bB,bQ,bR,bl,cm,cn,cq,cr,ct,bS])
                   have nC:Has h AF:=Has.aU rA kY b4 o!
                   have o8:Has n4 AF:=Has.aU o6 kY lq o!
                   have o9:Has mJ AF:=Has.aU o7 kY iK o!
                   have Qb:=zg (d:=d+9) t l_ worker ab ae ready (aD.mono nC b8) (bE.has nC) bf qg
                   obtain ⟨D_,Ef,rB,Hk,su,n8⟩:=cj qg (aH.cells [(AV.str []),(AV.int .i64 0),(AV.int .i64 0),(AV.int .i64 0),(AV.int .i64 0)] 37 false)
                   have uI:Has h D_:=nC.trans n8
                   have o_:Has n4 D_:=o8.trans n8
                   have pa:Has mJ D_:=o9.trans n8
                   obtain ⟨zr,Eg,AG,Hg,uF,kZ⟩:=dW (t:=37) (n:=5) (i:=AF.nx) (L:=[(AV.str (((bC t l_ worker ab ae ready).1).worker)),(AV.int .i64 (((bC t l_ worker ab ae ready).1).ab)),(AV.int .i64 (((bC t l_ worker ab ae ready).1).aP)),(AV.int .i64 (((bC t l_ worker ab ae ready).1).leave)),(AV.int .i64 (((bC t l_ worker ab ae ready).1).out))]) rB su k! rfl rfl (by simp only[AV.cells,List.all_cons,List.all_nil,Bool.and_true,Bool.and_self,bP,bB,bQ,bR,bl,cm,cn,cq,cr,ct,bS])
                   have uG:Has h zr:=Has.aU uI kZ b4 o!
                   have AJ:Has n4 zr:=Has.aU o_ kZ lq o!
                   have AK:Has mJ zr:=Has.aU pa kZ iK o!
                   have T4:eW env .eql 37 false false (some (AV.agg [(AV.str (((bL t l_ worker ab ae ready).1).worker)),(AV.int .i64 (((bL t l_ worker ab ae ready).1).ab)),(AV.int .i64 (((bL t l_ worker ab ae ready).1).aP)),(AV.int .i64 (((bL t l_ worker ab ae ready).1).leave)),(AV.int .i64 (((bL t l_ worker ab ae ready).1).out))])) (some (AV.agg [(AV.str (((bC t l_ worker ab ae ready).1).worker)),(AV.int .i64 (((bC t l_ worker ab ae ready).1).ab)),(AV.int .i64 (((bC t l_ worker ab ae ready).1).aP)),(AV.int .i64 (((bC t l_ worker ab ae ready).1).leave)),(AV.int .i64 (((bC t l_ worker ab ae ready).1).out))]))=some (AV.bool (aO.eq ((bL t l_ worker ab ae ready).1) ((bC t l_ worker ab ae ready).1))):=aO.eql ((bL t l_ worker ab ae ready).1) ((bC t l_ worker ab ae ready).1)
                   have ev:=pk (d+13) dw ((AV.agg [t.ak,(AV.int .i64 t.rest),(AV.int .i64 t.day)])::bA::(AV.str worker)::(AV.int .i64 ab)::(AV.int .i64 ae)::(AV.int .i64 ready)::cz 105) h .ret zr (NN bm (fun i=>(AV.ptr i 0))<|CC<|MM (aw 24 0 (AV.agg [t.ak,(AV.int .i64 t.rest),(AV.int .i64 t.day)]) aE k!)<|CC<|EE k2<|CC<|BB f0<|CC<|BB f0<|CC<|BB f0<|VV (dA 3 false true .i64 ((List.length worker:Nat):Int) 100)<|VV (aJ (a:=some (AV.bool true)) (b:=some (AV.bool (decide (100<((List.length worker:Nat):Int))))) f0)<|BB f1<|MM (aw 24 0 (AV.agg [t.ak,(AV.int .i64 t.rest),(AV.int .i64 t.day)]) aE k!)<|CN 2<|EE k6<|CN 5<|MM (aw 24 0 (AV.agg [t.ak,(AV.int .i64 t.rest),(AV.int .i64 t.day)]) aE k!)<|CN 2<|EE k7<|CN 5<|MM (aw 24 0 (AV.agg [t.ak,(AV.int .i64 t.rest),(AV.int .i64 t.day)]) aE k!)<|MM (aw 24 0 (AV.agg [t.ak,(AV.int .i64 t.rest),(AV.int .i64 t.day)]) aE k!)<|EE k8<|EE k9<|VV (cS 28 false false .i64 (bw t) (ay t))<|CC<|BB f2<|CC<|BB f2<|CC<|BB f2<|VV (cS 3 false false .i64 ((b6 t ab ae).1) ((b7 t ab ae).1))<|VV (aJ (a:=some (AV.bool true)) (b:=some (AV.bool (!decide (((b6 t ab ae).1)=((b7 t ab ae).1))))) f2)<|CC<|BB f3<|CC<|BB f3<|CC<|BB f3<|VV (cS 28 false false .i64 ((b6 t ab ae).2) ((b7 t ab ae).2))<|VV (aJ (a:=some (AV.bool true)) (b:=some (AV.bool (!decide (((b6 t ab ae).2)=((b7 t ab ae).2))))) f3)<|HH (aw 24 0 (AV.agg [t.ak,(AV.int .i64 t.rest),(AV.int .i64 t.day)]) aE k!)<|HH rh<|HH (aw 24 0 (AV.agg [t.ak,(AV.int .i64 t.rest),(AV.int .i64 t.day)]) aE k!)<|HH rh<|HH (aw 24 0 (AV.agg [t.ak,(AV.int .i64 t.rest),(AV.int .i64 t.day)]) aE k!)<|HH rh<|BB f4<|MM (aw 24 0 (AV.agg [t.ak,(AV.int .i64 t.rest),(AV.int .i64 t.day)]) aE k!)<|CC<|EE uK<|CN 5<|MM (aw 24 0 (AV.agg [t.ak,(AV.int .i64 t.rest),(AV.int .i64 t.day)]) (gJ.a _ _ aE) k!)<|CC<|EE uL<|CN 7<|VV (cS 28 false false .i64 ((bM t l_).2) ((aC t l_).2))<|CC<|BB f5<|CC<|BB f5<|CC<|BB f5<|EE NF<|BB f5<|CC<|VV (aJ (a:=some (AV.bool true)) (b:=some (AV.bool (!(gE ((bM t l_).1) ((aC t l_).1))))) f5)<|BB f6<|MM (aw 24 0 (AV.agg [t.ak,(AV.int .i64 t.rest),(AV.int .i64 t.day)]) (gK.a _ _ (gJ.a _ _ aE)) k!)<|CN 5<|EE KH<|CN 3<|NN Ed (fun i=>(AV.ptr i 0))<|SS Ee<|CC<|MM (aw 24 0 (AV.agg [t.ak,(AV.int .i64 t.rest),(AV.int .i64 t.day)]) (kY _ _ o! (n7 _ _ (gK.a _ _ (gJ.a _ _ aE)))) k!)<|CN 5<|EE Qb<|CN 3<|NN Ef (fun i=>(AV.ptr i 0))<|SS Eg<|CC<|MM (aw 37 0 (AV.agg [(AV.str (((bL t l_ worker ab ae ready).1).worker)),(AV.int .i64 (((bL t l_ worker ab ae ready).1).ab)),(AV.int .i64 (((bL t l_ worker ab ae ready).1).aP)),(AV.int .i64 (((bL t l_ worker ab ae ready).1).leave)),(AV.int .i64 (((bL t l_ worker ab ae ready).1).out))]) (kZ _ _ o! (n8 _ _ uE)) k!)<|MM (aw 37 0 (AV.agg [(AV.str (((bC t l_ worker ab ae ready).1).worker)),(AV.int .i64 (((bC t l_ worker ab ae ready).1).ab)),(AV.int .i64 (((bC t l_ worker ab ae ready).1).aP)),(AV.int .i64 (((bC t l_ worker ab ae ready).1).leave)),(AV.int .i64 (((bC t l_ worker ab ae ready).1).out))]) uF k!)<|VV T4<|CC<|BB f7<|CC<|BB f7<|CC<|BB f7<|VV (dC 28 false false .i64 ((bL t l_ worker ab ae ready).2) ((bC t l_ worker ab ae ready).2))<|VV (aX (a:=some (AV.bool (decide (((bL t l_ worker ab ae ready).2)=((bC t l_ worker ab ae ready).2))))) (b:=some (AV.bool false)) f7)<|CC<|BB f8<|VV (aJ (a:=some AV.undef) (b:=some (AV.bool false)) f8)<|CC<|ZZ) k!
                   have e:cO t l_ worker ab ae ready=false:=by simp only[cO,f0,f1,f2,f3,f4,f5,f6,f7,f8,cond_true,cond_false]
                   rw[e]
                   exact az rfl (bz Tryz.func3 fm k! (.inr rfl) ev k!) uG rfl
               · obtain ⟨h1,bm,aL,cu,aE,bh⟩:=cj b4 (aH.cells [t.ak,(AV.int .i64 t.rest),(AV.int .i64 t.day)] 24 false)
                 have aG:Has h h1:=bh
                 have k2:=j6 (d:=d+12) t l_ (aD.mono aG b8) (bE.has aG) aL
                 have O6:worker.length<2^60:=bf
                 have k6:=ju (d:=d+7) t ab ae (aD.mono aG b8) aL
                 have k7:=jv (d:=d+10) t ab ae (aD.mono aG b8) aL
                 have k8:=cN (d:=d+8) t (aD.mono aG b8) aL
                 have k9:=cg (d:=d+11) t (aD.mono aG b8) aL
                 have rh:AV.same 20 (AV.agg [t.ak,(AV.int .i64 t.rest),(AV.int .i64 t.day)]) (AV.agg [t.ak,(AV.int .i64 t.rest),(AV.int .i64 t.day)])=true:=fq 18 (kz b8.same (kz (fun n=>aQ n _ _) (kz (fun n=>aQ n _ _) Dz)))
                 obtain ⟨UO,n4,uK,gJ,vK,Ho⟩:=fb (d:=d+5) t l_ (aD.mono aG b8) (bE.has aG) aL
                 have lq:=gJ.y
                 have Hp:h1.nx≤n4.nx:=gJ.n
                 have jb:Has h n4:=aG.trans gJ.a
                 have B_:=vK.small
                 obtain ⟨UP,mJ,uL,gK,vL,Hq⟩:=dK (d:=d+10) t l_ (aD.mono jb b8) (bE.has jb) lq
                 have iK:=gK.y
                 have Hr:n4.nx≤mJ.nx:=gK.n
                 have j4:Has h mJ:=jb.trans gK.a
                 have ig:Has n4 mJ:=gK.a
                 have B':=vL.small
                 have NF:=pY (d:=d+12) ((bM t l_).1) ((aC t l_).1) (vK.has ig) vL iK
                 have KH:=yY (d:=d) t l_ worker ab ae ready (aD.mono j4 b8) (bE.has j4) bf iK
                 obtain ⟨p_,Ed,mD,LI,zi,n7⟩:=cj iK (aH.cells [(AV.str []),(AV.int .i64 0),(AV.int .i64 0),(AV.int .i64 0),(AV.int .i64 0)] 37 false)
                 have rA:Has h p_:=j4.trans n7
                 have o6:Has n4 p_:=ig.trans n7
                 have o7:Has mJ p_:=n7
                 obtain ⟨AF,Ee,qg,Hf,uE,kY⟩:=dW (t:=37) (n:=5) (i:=mJ.nx) (L:=[(AV.str (((bL t l_ worker ab ae ready).1).worker)),(AV.int .i64 (((bL t l_ worker ab ae ready).1).ab)),(AV.int .i64 (((bL t l_ worker ab ae ready).1).aP)),(AV.int .i64 (((bL t l_ worker ab ae ready).1).leave)),(AV.int .i64 (((bL t l_ worker ab ae ready).1).out))]) mD zi k! rfl rfl (by simp only[AV.cells,List.all_cons,List.all_nil,Bool.and_true,Bool.and_self,bP,bB,bQ,bR,bl,cm,cn,cq,cr,ct,bS])
                 have nC:Has h AF:=Has.aU rA kY b4 o!
                 have o8:Has n4 AF:=Has.aU o6 kY lq o!
                 have o9:Has mJ AF:=Has.aU o7 kY iK o!
                 have Qb:=zg (d:=d+9) t l_ worker ab ae ready (aD.mono nC b8) (bE.has nC) bf qg
                 obtain ⟨D_,Ef,rB,Hk,su,n8⟩:=cj qg (aH.cells [(AV.str []),(AV.int .i64 0),(AV.int .i64 0),(AV.int .i64 0),(AV.int .i64 0)] 37 false)
                 have uI:Has h D_:=nC.trans n8
                 have o_:Has n4 D_:=o8.trans n8
                 have pa:Has mJ D_:=o9.trans n8
                 obtain ⟨zr,Eg,AG,Hg,uF,kZ⟩:=dW (t:=37) (n:=5) (i:=AF.nx) (L:=[(AV.str (((bC t l_ worker ab ae ready).1).worker)),(AV.int .i64 (((bC t l_ worker ab ae ready).1).ab)),(AV.int .i64 (((bC t l_ worker ab ae ready).1).aP)),(AV.int .i64 (((bC t l_ worker ab ae ready).1).leave)),(AV.int .i64 (((bC t l_ worker ab ae ready).1).out))]) rB su k! rfl rfl (by simp only[AV.cells,List.all_cons,List.all_nil,Bool.and_true,Bool.and_self,bP,bB,bQ,bR,bl,cm,cn,cq,cr,ct,bS])
                 have uG:Has h zr:=Has.aU uI kZ b4 o!
                 have AJ:Has n4 zr:=Has.aU o_ kZ lq o!
                 have AK:Has mJ zr:=Has.aU pa kZ iK o!
                 have T4:eW env .eql 37 false false (some (AV.agg [(AV.str (((bL t l_ worker ab ae ready).1).worker)),(AV.int .i64 (((bL t l_ worker ab ae ready).1).ab)),(AV.int .i64 (((bL t l_ worker ab ae ready).1).aP)),(AV.int .i64 (((bL t l_ worker ab ae ready).1).leave)),(AV.int .i64 (((bL t l_ worker ab ae ready).1).out))])) (some (AV.agg [(AV.str (((bC t l_ worker ab ae ready).1).worker)),(AV.int .i64 (((bC t l_ worker ab ae ready).1).ab)),(AV.int .i64 (((bC t l_ worker ab ae ready).1).aP)),(AV.int .i64 (((bC t l_ worker ab ae ready).1).leave)),(AV.int .i64 (((bC t l_ worker ab ae ready).1).out))]))=some (AV.bool (aO.eq ((bL t l_ worker ab ae ready).1) ((bC t l_ worker ab ae ready).1))):=aO.eql ((bL t l_ worker ab ae ready).1) ((bC t l_ worker ab ae ready).1)
                 have ev:=pk (d+13) dw ((AV.agg [t.ak,(AV.int .i64 t.rest),(AV.int .i64 t.day)])::bA::(AV.str worker)::(AV.int .i64 ab)::(AV.int .i64 ae)::(AV.int .i64 ready)::cz 105) h .ret zr (NN bm (fun i=>(AV.ptr i 0))<|CC<|MM (aw 24 0 (AV.agg [t.ak,(AV.int .i64 t.rest),(AV.int .i64 t.day)]) aE k!)<|CC<|EE k2<|CC<|BB f0<|CC<|BB f0<|CC<|BB f0<|VV (dA 3 false true .i64 ((List.length worker:Nat):Int) 100)<|VV (aJ (a:=some (AV.bool true)) (b:=some (AV.bool (decide (100<((List.length worker:Nat):Int))))) f0)<|BB f1<|MM (aw 24 0 (AV.agg [t.ak,(AV.int .i64 t.rest),(AV.int .i64 t.day)]) aE k!)<|CN 2<|EE k6<|CN 5<|MM (aw 24 0 (AV.agg [t.ak,(AV.int .i64 t.rest),(AV.int .i64 t.day)]) aE k!)<|CN 2<|EE k7<|CN 5<|MM (aw 24 0 (AV.agg [t.ak,(AV.int .i64 t.rest),(AV.int .i64 t.day)]) aE k!)<|MM (aw 24 0 (AV.agg [t.ak,(AV.int .i64 t.rest),(AV.int .i64 t.day)]) aE k!)<|EE k8<|EE k9<|VV (cS 28 false false .i64 (bw t) (ay t))<|CC<|BB f2<|CC<|BB f2<|CC<|BB f2<|VV (cS 3 false false .i64 ((b6 t ab ae).1) ((b7 t ab ae).1))<|VV (aJ (a:=some (AV.bool true)) (b:=some (AV.bool (!decide (((b6 t ab ae).1)=((b7 t ab ae).1))))) f2)<|CC<|BB f3<|CC<|BB f3<|CC<|BB f3<|VV (cS 28 false false .i64 ((b6 t ab ae).2) ((b7 t ab ae).2))<|VV (aJ (a:=some (AV.bool true)) (b:=some (AV.bool (!decide (((b6 t ab ae).2)=((b7 t ab ae).2))))) f3)<|HH (aw 24 0 (AV.agg [t.ak,(AV.int .i64 t.rest),(AV.int .i64 t.day)]) aE k!)<|HH rh<|HH (aw 24 0 (AV.agg [t.ak,(AV.int .i64 t.rest),(AV.int .i64 t.day)]) aE k!)<|HH rh<|HH (aw 24 0 (AV.agg [t.ak,(AV.int .i64 t.rest),(AV.int .i64 t.day)]) aE k!)<|HH rh<|BB f4<|MM (aw 24 0 (AV.agg [t.ak,(AV.int .i64 t.rest),(AV.int .i64 t.day)]) aE k!)<|CC<|EE uK<|CN 5<|MM (aw 24 0 (AV.agg [t.ak,(AV.int .i64 t.rest),(AV.int .i64 t.day)]) (gJ.a _ _ aE) k!)<|CC<|EE uL<|CN 7<|VV (cS 28 false false .i64 ((bM t l_).2) ((aC t l_).2))<|CC<|BB f5<|CC<|BB f5<|CC<|BB f5<|EE NF<|BB f5<|CC<|VV (aJ (a:=some (AV.bool true)) (b:=some (AV.bool (!(gE ((bM t l_).1) ((aC t l_).1))))) f5)<|BB f6<|MM (aw 24 0 (AV.agg [t.ak,(AV.int .i64 t.rest),(AV.int .i64 t.day)]) (gK.a _ _ (gJ.a _ _ aE)) k!)<|CN 5<|EE KH<|CN 3<|NN Ed (fun i=>(AV.ptr i 0))<|SS Ee<|CC<|MM (aw 24 0 (AV.agg [t.ak,(AV.int .i64 t.rest),(AV.int .i64 t.day)]) (kY _ _ o! (n7 _ _ (gK.a _ _ (gJ.a _ _ aE)))) k!)<|CN 5<|EE Qb<|CN 3<|NN Ef (fun i=>(AV.ptr i 0))<|SS Eg<|CC<|MM (aw 37 0 (AV.agg [(AV.str (((bL t l_ worker ab ae ready).1).worker)),(AV.int .i64 (((bL t l_ worker ab ae ready).1).ab)),(AV.int .i64 (((bL t l_ worker ab ae ready).1).aP)),(AV.int .i64 (((bL t l_ worker ab ae ready).1).leave)),(AV.int .i64 (((bL t l_ worker ab ae ready).1).out))]) (kZ _ _ o! (n8 _ _ uE)) k!)<|MM (aw 37 0 (AV.agg [(AV.str (((bC t l_ worker ab ae ready).1).worker)),(AV.int .i64 (((bC t l_ worker ab ae ready).1).ab)),(AV.int .i64 (((bC t l_ worker ab ae ready).1).aP)),(AV.int .i64 (((bC t l_ worker ab ae ready).1).leave)),(AV.int .i64 (((bC t l_ worker ab ae ready).1).out))]) uF k!)<|VV T4<|CC<|BB f7<|BB f7<|BB f7<|VV (aJ (a:=some AV.undef) (b:=some (AV.bool false)) f7)<|CC<|FF<|CN 2<|ZZ) k!
                 have e:cO t l_ worker ab ae ready=false:=by simp only[cO,f0,f1,f2,f3,f4,f5,f6,f7,cond_true,cond_false]
                 rw[e]
                 exact az rfl (bz Tryz.func3 fm k! (.inr rfl) ev k!) uG rfl
theorem Eh {w:List UInt8} {p m i:Int} {row:bK} (hi:0≤i) (UD:i≤1000000) (hm:0≤m) (O4:m≤1000000) (hn:0≤row.out) (Ry:row.out≤1000000):aN i w p m row=X w p m row.out i:=by
 unfold aN X
 rw[wrap_i64 (show -9223372036854775808≤i+m by omega) (by omega),wrap_i64 (by omega) (by omega)]
theorem sv (t:aK) (l:List aO):∀(k i:Nat) (v:List Int),cR t l k i v=v++(List.range' i k).map fun j:Nat=>cX t l (j:Int)
 | 0,i,v=>(List.append_nil _).symm
 | k+1,i,v=>by
   rw[cR,sv t l k (i+1),List.range'_succ,List.map_cons,List.append_assoc];rfl
theorem IF {t:aK} {l:List aO} (h:(aC t l).2=0):bU t l=0∧(aC t l).1=(List.range' 0 l.length).map fun j:Nat=>cX t l (j:Int):=by
 rw[wy] at h ⊢
 by_cases q:bU t l=0
 · rw[decide_eq_true q]
   exact ⟨q,sv t l _ _ _⟩
 · rw[decide_eq_false q] at h;exact absurd h q
theorem AL (t:aK) (l:List aO):∀(k i:Nat),
 (∃n:Nat,et (aC t l).1 (fun y=>du y) k i=some (n:Int)∧jH t l k i=some ((⟨[],0,0,0,0⟩:aO),8))∨(et (aC t l).1 (fun y=>du y) k i=none∧jH t l k i=none∧∀j,i≤j→j<i+k→(aC t l).1.g j=0)
 | 0,i=> .inr ⟨rfl,rfl,fun j h1 h2=>by omega⟩
 | k+1,i=>by
   rw[et,jH,du]
   by_cases q:(aC t l).1.g i=0
   · rw[decide_eq_true q]
     rcases AL t l k (i+1) with h | ⟨h1,h2,h3⟩
     · exact .inl h
     · refine .inr ⟨h1,h2,fun j a b=>?_⟩
       by_cases e:j=i
       · rw[e];exact q
       · exact h3 j (by omega) (by omega)
   · rw[decide_eq_false q];exact .inl ⟨i,rfl,rfl⟩
theorem Hs {t:aK} {l:List aO} {w:List UInt8} {p m n b r:Int} {Q:Int→Bool} (hn:aA t p m=n) (hm:0≤m) (IM:0≤n) (hb:0≤b) (hr:0≤r)
 (hQ:∀v,b≤v→v+m+n≤100000→decide (cX t ((([]:List aO)++l)++[X w p m n v]) ((l.length:Nat):Int)=0)=Q v) (lo:∀y,b≤y→y<b+r→Q y=false) (hi:b+r+m+n≤100000→Q (b+r)=true):
 ∀(k:Nat) (v:Int),b≤v→v≤b+r→100001 - v≤(k:Int)→gT w p m t l k v=bif decide (b+r+m+n≤100000) then some (X w p m n (b+r),0) else none
 | 0,v,h1,h2,h3=>by
   rw[decide_eq_false (show ¬(b+r+m+n≤100000) by omega)];rfl
 | k+1,v,h1,h2,h3=>by
   rw[gT,hn]
   by_cases q:v+m+n≤100000
   · rw[decide_eq_true q]
     simp only[cond_true]
     rw[show (⟨w,p,v,v+m,v+m+n⟩:aO)=X w p m n v from rfl,hQ v h1 q]
     by_cases e:v=b+r
     · subst e
       rw[hi q,decide_eq_true q];rfl
     · rw[lo v h1 (by omega)]
       exact Hs hn hm IM hb hr hQ lo hi k (v+1) (by omega) (by omega) (by omega)
   · rw[decide_eq_false q,decide_eq_false (show ¬(b+r+m+n≤100000) by omega)];rfl
theorem uM (t:aK) (a:List aO) {b m y:Int} {w:List UInt8} {p:Int} {row:bK} (hb:0≤b) (T5:b≤100000) (hy:0≤y) (Xu:y≤100001) (hm:0≤m) (O4:m≤100000) (hn:0≤row.out) (Ry:row.out≤100000):
 br y t a b w p m row=decide (c9 (st t a (X w p m row.out (b+y)))=0):=by
 unfold br
 rw[wrap_i64 (by omega) (by omega),Eh (by omega) (by omega) (by omega) (by omega) hn (by omega)]
 rfl
theorem AM {t:aK} {l:List aO} {w:List UInt8} {p m b:Int} {row:bK} (s:uy t l) (nf:∀j,j<l.length→cX t l (j:Int)=0) (sD:row.out=aA t p m) (h0:0≤aA t p m) (h1:aA t p m≤100000) (hb:0≤b) (T5:b≤100000) (hm:0<m) (O4:m≤100000):
 (bif bW ((aN (IntKind.i64.wrap (b+(bp 100001 (fun y=>br y t (aM l w) b w p m row)))) w p m row).out) then ((aN (IntKind.i64.wrap (b+(bp 100001 (fun y=>br y t (aM l w) b w p m row)))) w p m row),(0:Int)) else ((⟨[],0,0,0,0⟩:aO),9))=
 (match gT w p m t l (Int.toNat (100001 - b)) b with | none=>((⟨[],0,0,0,0⟩:aO),(9:Int)) | some rr=>(rr.1,rr.2)):=by
 have len:=s.len
 have tb:=my s.UH
 rw[yS]
 have hA:∀d∈oT w l,Ok d:=by
  have:=FL (w:=w) (l:=l) (n:=l.length) (Nat.le_refl _) s.Ok
  rwa [List.take_length] at this
 have hlen:(oT w l).length≤1000:=by have:=Ha l w;omega
 have hc:=chain s tb.2.1 nf w l.length (Nat.le_refl _)
 rw[List.take_length] at hc
 have mono:∀y z,0≤y→y≤z→z<100001→br y t (oT w l) b w p m row=true→br z t (oT w l) b w p m row=true:=fun y z y0 yz zN h=>by
  rw[uM t (oT w l) hb T5 y0 (by omega) (by omega) O4 (by omega) (by omega)] at h
  rw[uM t (oT w l) hb T5 (by omega) (by omega) (by omega) O4 (by omega) (by omega)]
  exact decide_eq_true (later tb.2.1 hA hlen hc hm O4 (by omega) (by omega) (by omega) (show b+y≤b+z by omega) (by omega) (of_decide_eq_true h))
 have L:=IE (P:=fun y=>br y t (oT w l) b w p m row) (N:=100001) (by omega) (by omega) mono
 generalize bp 100001 (fun y=>br y t (oT w l) b w p m row)=r at L
 obtain ⟨r0,rN,lo,hi⟩:=L
 rw[wrap_i64 (by omega) (by omega),Eh (by omega) (by omega) (by omega) (by omega) (by omega) (by omega),sD]
 rw[Hs (n:=aA t p m) (b:=b) (r:=r) (Q:=fun v=>decide (c9 (st t (oT w l) (X w p m (aA t p m) v))=0)) rfl (by omega) h0 hb r0 ?_ ?_ ?_ _ b (Int.le_refl _) (by omega) (by omega)]
 · show (bif (bif decide (0≤b+r+m+aA t p m) then decide (b+r+m+aA t p m≤100000) else false) then _ else _)=_
   rw[decide_eq_true (show 0≤b+r+m+aA t p m by omega)]
   simp only[cond_true]
   cases decide (b+r+m+aA t p m≤100000)<;>rfl
 · intro v v0 v1
   have hx:=Ri (w:=w) (p:=p) (m:=m) (n:=aA t p m) (i:=v) (by omega) h0 (by omega) (by omega)
   rw[List.nil_append]
   have gl:∀j,j<l.length→(l++[X w p m (aA t p m) v]).g j=l.g j:=fun j hj=>by
    rw[List.g,List.g,List.getD_eq_getElem?_getD,List.getD_eq_getElem?_getD,List.getElem?_append_left hj]
   have gn:(l++[X w p m (aA t p m) v]).g l.length=X w p m (aA t p m) v:=by
    rw[List.g,List.getD_eq_getElem?_getD,List.getElem?_append_right (Nat.le_refl _),Nat.sub_self];rfl
   have:=yV t (l:=l++[X w p m (aA t p m) v]) (n:=l.length) (fun j hj=>(tb.1 j hj).1) (by rw[List.length_append];simp;omega) (by simp) fun j hj=>by
    by_cases e:j=l.length
    · rw[e,gn];exact hx
    · rw[gl j (by omega)];exact s.Ok j (by omega)
   rw[gn,List.take_left] at this
   rw[←this]
   rfl
 · intro y y0 y1
   have:=lo (y - b) (by omega) (by omega)
   rw[uM t (oT w l) hb T5 (by omega) (by omega) (by omega) O4 (by omega) (by omega),sD,show b+(y - b)=y by omega] at this
   exact this
 · intro h
   have:=hi r (Int.le_refl _) (by omega)
   rw[uM t (oT w l) hb T5 (by omega) (by omega) (by omega) O4 (by omega) (by omega),sD] at this
   exact this
theorem N0 (t:aK) (l:List aO) (w:List UInt8) (p m ready:Int):bL t l w p m ready=bC t l w p m ready:=by
 unfold bL bC bX
 rw[AE,G9,hZ,hZ,hZ]
 by_cases e:(aC t l).2=0
 · rw[decide_eq_true e]
   simp only[Bool.not_true,cond_false]
   obtain ⟨cs,fl⟩:=IF e
   have s:=uy.of cs
   unfold gS fX
   rcases AL t l (aC t l).1.length 0 with ⟨n,h1,h2⟩ | ⟨h1,h2,h3⟩
   · rw[h1,h2]
     simp only
     rw[decide_eq_true (show 0≤(n:Int) by omega)];rfl
   · rw[h1,h2]
     simp only
     rw[show decide ((0:Int)≤-1)=false from rfl]
     simp only[cond_false]
     have nf:∀j,j<l.length→cX t l (j:Int)=0:=fun j hj=>by
      have:=h3 j (by omega) (by rw[fl,List.length_map,List.length_range'];omega)
      rw[fl,List.g,List.getD_eq_getElem?_getD,List.getElem?_map,List.getElem?_range' (by omega)] at this
      simpa using this
     cases q1:dS w with
     | false=>rfl
     | true=>
     cases q2:aF p with
     | false=>rfl
     | true=>
     cases q3:aF m with
     | false=>rfl
     | true=>
     cases q4:aF ready with
     | false=>rfl
     | true=>
     have b2:=rv q3
     have b3:=rv q4
     by_cases z:m=0
     · rw[decide_eq_true z];rfl
     rw[decide_eq_false z]
     simp only[Bool.not_true,cond_false,show decide ((0:Int)=0)=true from rfl]
     have ho:=xb s.UH
     have wb:=yQ p m ho
     rcases vz t p m (fun j hj=>(ho j hj).1) with ⟨c1,c2⟩ | ⟨c1,c2,c3⟩
     · rw[c1,c2];rfl
     rw[c1,decide_eq_false (show ¬aA t p m<0 by omega)]
     simp only[Bool.not_true,cond_false]
     by_cases hl:0<((l.length:Nat):Int)
     · rw[decide_eq_true hl]
       simp only[cond_true]
       have li:=s.ok (l.length - 1) (by omega)
       have mx:=K3 ready (l.g (l.length - 1)).aP
       exact AM s nf c2 c3 wb.2 (by omega) (by omega) (by omega) b2.2
     · rw[decide_eq_false hl]
       simp only[cond_false]
       exact AM s nf c2 c3 wb.2 b3.1 b3.2 (by omega) b2.2
 · rw[decide_eq_false e]
   simp only[Bool.not_false,cond_true]
   rw[decide_eq_false e];rfl
theorem Ei (a:List Int):gE a a=true:=by
 unfold gE
 rw[decide_eq_true rfl]
 simp only[Bool.not_true,cond_false]
 have:∀k i,il a a k i=none:=by
  intro k
  induction k with
  | zero=>intro _;rfl
  | succ k ih=>intro i;rw[il,decide_eq_true rfl];exact ih (i+1)
 rw[this]
theorem aO.N1 (x:aO):aO.eq x x=true:=by simp [aO.eq]
theorem zR (t:aK) (l:List aO) (w:List UInt8) (p m r:Int):cO t l w p m r=true:=by
 unfold cO
 rw[lR,Is,AE,N0,Ei,aO.N1,decide_eq_true rfl,decide_eq_true rfl,decide_eq_true rfl,decide_eq_true rfl,decide_eq_true rfl]
 cases ov t l<;>cases decide (100<((List.length w:Nat):Int))<;>rfl
open Go.ChangeShapes Go.WideShapes Go.RowKit
structure Gx (φ φ':Ph) (h h':ar) (w:World):Prop where
 ok:OK env φ' h' w
 le:φ.le φ'
 ro:tZ h'
 has:Has h h'
 nx:h.nx≤h'.nx
 tidy:Tidy h'
theorem Gx.refl {φ:Ph} {h:ar} {w:World} (ok:OK env φ h w) (ro:tZ h) (y:Tidy h):Gx φ φ h h w:=⟨ok,Ph.le_refl _,ro,Has.refl _,Nat.le_refl _,y⟩
theorem Gx.trans {a b c:Ph} {h1 h2 h3:ar} {w:World} (x:Gx a b h1 h2 w) (y:Gx b c h2 h3 w):Gx a c h1 h3 w:=⟨y.ok,Ph.le_trans x.le y.le,y.ro,x.has.trans y.has,Nat.le_trans x.nx y.nx,y.tidy⟩
section
variable {H:Type} (enc:TypeId×Value→H) (w:World) (base:Nat) (spare:Nat→Bool) (held:Bool)
def Small (t:TypeId) (d:DataW H):Prop:=(DataW.weights env.P t d).all (· ≤reachBytes)=true
theorem Small.all {e:TypeId}:∀{l:List (DataW H)},(DataW.weightsAll env.P e l).all (· ≤reachBytes)=true→∀d∈l,Small e d
 | [],_,d,hd=>by cases hd
 | x::l,h,d,hd=>by
   rw[DataW.weightsAll,List.all_append,Bool.and_eq_true] at h
   rcases List.mem_cons.1 hd with rfl | hd
   · exact h.1
   · exact Small.all h.2 d hd
theorem Small.struct {t:TypeId} {fs:Array Field} {parts:List (DataW H)} (ht:env.P.underlying t=some (.struct fs)) (h:Small t (.agg parts)):(DataW.weightsEach env.P (fs.toList.map (·.type)) parts).all (· ≤reachBytes)=true:=by
 unfold Small at h
 rw[DataW.weights,ht] at h
 exact h
theorem Small.cW {t:TypeId} {ts:List TypeId} {d:DataW H} {ds:List (DataW H)} (h:(DataW.weightsEach env.P (t::ts) (d::ds)).all (· ≤reachBytes)=true):Small t d∧(DataW.weightsEach env.P ts ds).all (· ≤reachBytes)=true:=by
 rw[DataW.weightsEach,List.all_append,Bool.and_eq_true] at h
 exact h
theorem Ht {n:Nat} (h:n≤reachBytes):n<2^60:=Nat.lt_of_le_of_lt h (by unfold reachBytes;decide)
def uN {D:Type} (t:TypeId) (sz:Nat) (c:D→List AV) (ok:ar→D→Prop):Prop:=
 ∀(φ:Ph) (h:ar),OK env φ h w→tZ h→Tidy h→∀(cs:List Value) (y:DataW H×List MemPlace) (n:Nat),cs.length=sz→Small t y.1→DataW.trod enc env.P w base spare held n t cs=some y→
  ∃φ' h' x,Gx φ φ' h h' w∧LR φ' (c x) cs∧ok h' x
variable {enc w base spare held}
theorem gU {k:IntKind} {t:TypeId} (ht:env.P.underlying t=some (.int k)):uN enc w base spare held t 1 (fun x:Int=> [.int k x]) (fun _ _=>True):=fun φ h ok ro y cs z n _ hw hv=>by
 obtain ⟨m,rfl,_,_⟩:=DataW.trod_int ht hv
 exact ⟨φ,h,m,Gx.refl ok ro y,LR.cons (VR.int k m) (LR.nil _),trivial⟩
theorem AN {t:TypeId} (ht:env.P.underlying t=some .string):uN enc w base spare held t 1 (fun x:List UInt8=> [.str x]) (fun _ x=>x.length<2^60):=fun φ h ok ro y cs z n _ hw hv=>by
 obtain ⟨s,rfl,rfl,hs⟩:=DataW.trod_string ht hv
 refine ⟨φ,h,s.data.toList,Gx.refl ok ro y,LR.cons (VR.str s) (LR.nil _),?_⟩
 unfold Small at hw
 rw[DataW.weights,List.all_cons,Bool.and_eq_true] at hw
 exact Ht (of_decide_eq_true hw.1)
theorem wz {α:Type} [aD α] {t:TypeId} (ht:env.P.underlying t=some (.slice (aD.e α))) (hs:env.P.cellsOf (aD.e α)=aD.n α) (Ze:0<env.P.bytesOf (aD.e α)) (hm:∀(h:ar) (x:α) m,aD.ok h x→AV.map m ∉ aD.c x)
 (he:uN enc w base spare held (aD.e α) (aD.n α) (aD.c (α:=α)) aD.ok):uN enc w base spare held t 1 (fun x:AV×List α=> [x.1]) (fun h x=>bD h x.1 x.2):=fun φ h ok ro y cs z fuel _ hw hv=>by
 have LU:=aD.pos (α:=α)
 rcases DataW.trod_slice ht hv with ⟨rfl,_⟩ | ⟨a,len,cap,elems,rest,n,_,rfl,rfl,hb,RP,W6,W0,gL,_,_⟩
 · exact ⟨φ,h,(.aI,[]),Gx.refl ok ro y,LR.cons VR.aI (LR.nil _),⟨aD.size,(Nat.zero_mul _).symm,Nat.pow_pos (by decide),rfl,.inl rfl⟩,.inl rfl,fun x hx=>by cases hx⟩
 rcases Nat.eq_zero_or_pos len with h0 | h0
 · subst h0
   exact ⟨φ,h,(.eS,[]),Gx.refl ok ro y,LR.cons (VR.eS a cap) (LR.nil _),⟨aD.size,(Nat.zero_mul _).symm,Nat.pow_pos (by decide),rfl,.inl rfl⟩,.inr (.inl rfl),fun x hx=>by cases hx⟩
 have zn:len<2^60∧(DataW.weightsAll env.P (aD.e α) (elems.map (·.1))).all (· ≤reachBytes)=true:=by
  unfold Small at hw
  rw[DataW.weights,ht] at hw
  simp only[List.all_cons,List.all_append,Bool.and_eq_true,List.length_map] at hw
  refine ⟨Ht (Nat.le_trans ?_ (of_decide_eq_true hw.1)),hw.2.1⟩
  rw[W0]
  exact Nat.le_trans (Nat.le_add_right _ _) (Nat.le_mul_of_pos_right _ Ze)
 have all:∀m,m≤len→∃(φ':Ph) (h':ar) (xs:List α),Gx φ φ' h h' w∧xs.length=m∧(∀x∈xs,aD.ok h' x)∧∀(i:Nat) (x:α),xs[i]? =some x→∀j v,(aD.c x)[j]? =some v→∃y,w.cell? ((a.add (i*aD.n α)).add j)=some y∧VR φ' v y:=by
  intro m
  induction m with
  | zero=>exact fun _=>⟨φ,h,[],Gx.refl ok ro y,rfl,fun _ hx=>(by cases hx),fun i xi hx=>(by simp at hx)⟩
  | succ m ih=>
    intro P0
    obtain ⟨φ1,h1,xs,g1,hl,hq,hx⟩:=ih (by omega)
    have h2:=gL m (by omega)
    rw[List.getElem?_eq_getElem (by omega),hs] at h2
    simp only[Option.bind_eq_some_iff] at h2
    obtain ⟨ci,Zf,Zg⟩:=h2
    obtain ⟨_,Rv,GG⟩:=World.cells?_some Zf
    obtain ⟨φ2,h2,x,g2,xy,mV⟩:=he φ1 h1 g1.ok g1.ro g1.tidy ci _ n Rv (Small.all zn.2 _ (List.mem_map.2 ⟨_,List.getElem_mem _,rfl⟩)) Zg
    refine ⟨φ2,h2,xs++[x],g1.trans g2,by simp [hl],fun z hz=>?_,fun i z hz=>?_⟩
    · rcases List.mem_append.1 hz with h | h
      · exact aD.mono g2.has (hq z h)
      · simp at h;subst h;exact mV
    · by_cases hi:i<xs.length
      · rw[List.getElem?_append_left hi] at hz
        intro j v hj
        obtain ⟨q,e1,e2⟩:=hx i z hz j v hj
        exact ⟨q,e1,e2.mono g2.le⟩
      · rw[List.getElem?_append_right (by omega)] at hz
        have:i - xs.length=0:=by
         have:=(List.getElem?_eq_some_iff.1 hz).1
         simp at this;omega
        rw[this] at hz
        simp at hz;subst hz
        have:i=m:=by omega
        subst this
        intro j v hj
        have po:j<(aD.c x).length:=(List.getElem?_eq_some_iff.1 hj).1
        have QH:j<ci.length:=by rw[←xy.1];exact po
        exact ⟨ci[j],by rw[GG j (by rw[Rv] at QH;exact QH),List.getElem?_eq_getElem QH],xy.2 j v _ hj (List.getElem?_eq_getElem QH)⟩
 obtain ⟨φ1,h1,xs,g1,hl,hq,hx⟩:=all len (Nat.le_refl _)
 have Fm:=fp aD.len xs
 have Hu:a.spot=none:=by
  have Zh:xs[0]? =some (xs[0]'(by omega)):=List.getElem?_eq_getElem (by omega)
  obtain ⟨y,hy,_⟩:=hx 0 _ Zh 0 ((aD.c (xs[0]'(by omega)))[0]'(by rw[aD.len];exact LU)) (List.getElem?_eq_getElem _)
  simp only[Nat.zero_mul,Addr.add,if_true] at hy
  unfold World.cell? at hy
  split at hy
  · cases Zi:a.spot with
    | none=>rfl
    | some _=>rw[Zi] at hy;simp at hy
  · cases hy
 have T6:∀i j,(a.add (i*aD.n α)).add j=⟨a.block,a.off+(i*aD.n α+j),none⟩:=by
  intro i j
  obtain ⟨b,o,sp⟩:=a
  simp only at Hu
  subst Hu
  unfold Addr.add
  by_cases h1:i*aD.n α=0<;>by_cases h2:j=0<;>simp [h1,h2,Nat.add_assoc]
 have eC:xs.flatMap aD.c≠ []:=by
  intro e
  have:=congrArg List.length e
  rw[Fm,hl] at this
  have:=Nat.mul_pos h0 LU
  simp at *
  omega
 obtain ⟨h',hn,qq,hle,W1,Zj,hg,hold,ib⟩:=g1.ok.show g1.ro (b:=a.block) (off:=a.off) (e:=aD.e α) eC (fun m P0=>by
  have:AV.map m∈xs.flatMap aD.c:=by rw[P0];simp
  obtain ⟨z,hz,Zk⟩:=List.mem_flatMap.1 this
  exact hm h1 z m (hq z hz) Zk) (fun k v hk=>by
  have Ch:k<(xs.flatMap aD.c).length:=(List.getElem?_eq_some_iff.1 hk).1
  have XW:k/aD.n α*aD.n α+k%aD.n α=k:=by rw[Nat.mul_comm];exact Nat.div_add_mod k _
  have hi:k/aD.n α<xs.length:=by
   rw[Fm] at Ch
   exact (Nat.div_lt_iff_lt_mul LU).2 Ch
  have XX:=hk
  rw[←XW,rb aD.len _ _ _ hi (Nat.mod_lt _ LU)] at XX
  have Zl:xs[k/aD.n α]? =some (xs.g (k/aD.n α)):=by
   rw[List.g,List.getD_eq_getElem?_getD,List.getElem?_eq_getElem hi];rfl
  obtain ⟨y,hy,Uo⟩:=hx _ _ Zl _ v XX
  rw[T6,XW] at hy
  exact ⟨y,hy,Uo⟩)
 have Zm:=VR.slice (φ:=φ1.add h1.nx ⟨a.block,a.off,0⟩) 0 len cap false ib
 have has:Has h1 h':=w_ g1.tidy hn
 refine ⟨_,h',(.slice h1.nx 0 len cap false,xs),g1.trans ⟨qq,hle,W1,has,by omega,oM g1.tidy hn⟩,LR.cons ?_ (LR.nil _),?_⟩
 · obtain ⟨b,o,sp⟩:=a
   simp only at Hu
   subst Hu
   exact Zm
 · subst hl
   exact ⟨⟨aD.size,Fm,zn.1,rfl,.inr ⟨h1.nx,0,_,cap,false,_,_,true,rfl,RP,hg,fun j _=>by rw[Nat.zero_add]⟩⟩,.inr (.inr ⟨_,_,_,_,_,rfl,fun e=>by cases e⟩),fun x hx=>aD.mono has (hq x hx)⟩
end
open Go.ChangeShapes Go.WideShapes Go.RowKit
section
variable {H:Type} {enc:TypeId×Value→H} {w:World} {base:Nat} {spare:Nat→Bool} {held:Bool}
end
end Go.Proofs.bt
