import Derived.Test.YtfllahfbmaafcaaW0
import Derived.Test.YtfllahfbmaafcaaW9
import Derived.Test.YtfllahfbmaafcaaW3
import Derived.Test.YtfllahfbmaafcaaW5
import Derived.Test.YtfllahfbmaafcaaA8
import Derived.Test.YtfllahfbmaafcaaW4
import Derived.Test.YtfllahfbmaafcaaW7
import Derived.Test.YtfllahfbmaafcaaW8
import Derived.Test.YtfllahfbmaafcaaEnv
import Derived.Test.YtfllahfbmaafcaaA6
set_option linter.unusedVariables false
set_option linter.unusedSimpArgs false
namespace Go.Proofs.aG
open Go.Proofs Ab
noncomputable section
set_option maxRecDepth 100000
set_option maxHeartbeats 4000000
def J5:Code:=(Try.f71.body).getD .skip
theorem TM:Try.f71.body=some J5:=by kernel_rfl
def j7 (x_:Int):Int:=(tP x_)
theorem C6 {d:Nat} {h:aA} (x_:Int) (bS:Tidy h):cz (d+2) (.fn 71) [(AV.int .u64 x_)] h= .ret (Zi (j7 x_)) h:=by
 have k1:=Mj (d:=d) x_ bS
 have e:j7 x_=(tP x_):=by simp only[j7,ak,aj]
 rw[e]
 exact aE rfl (ba Try.func71 TM rfl (.inr rfl) (pk (d+1) _ _ h _ h (CC<|FF<|CC<|EE k1<|CC<|ZZ) k!) k!) (Has.refl _) rfl
structure Yl (call:bh) (b:Nat) (ok:List AV→Prop) (I:List (List AV)→(Nat→Prop)→aA→Prop):Prop where
 ay:∀{L P hh},I L P hh→∀k,P k→k<hh.nx
 stay:∀{L P hh hk},I L P hh→Tidy hk→hh.nx≤hk.nx→(∀k w,P k→hh.get k=some w→hk.get k=some w)→I L P hk
 next:∀{L a P hh},L.length<1000→ok a→I L P hh→Tidy hh→∃hk P',call (.ua b) a hh= .ret (.bool true) hk∧Tidy hk∧hh.nx≤hk.nx∧I (L++[a]) P' hk∧(∀k,P' k→P k∨hh.nx≤k)∧∀k w,¬P k→hh.get k=some w→hk.get k=some w
def Left (P:Nat→Prop) (h hk:aA):Prop:=∀k w,¬P k→h.get k=some w→hk.get k=some w
theorem Left.refl (P:Nat→Prop) (h:aA):Left P h h:=fun _ _ _ q=>q
theorem Oa {n:Int} (h0:0≤n) (h:n≤8):0≤d_ .u64 1 n∧d_ .u64 1 n≤1000:=by
 obtain ⟨k,rfl⟩:∃k:Nat,n=k:=⟨n.toNat,by omega⟩
 have:∀k:Nat,k<9→0≤d_ .u64 1 (k:Nat)∧d_ .u64 1 (k:Nat)≤1000:=by decide+kernel
 exact this k o!
def jK (m:Int):Nat→Nat→List (List AV)
 | 0,_=> []
 | k+1,s=>bif decide (j7 ((s:Nat):Int)=m) then [AV.int .u64 ((s:Nat):Int)]::jK m k (s+1) else jK m k (s+1)
def Xc:Code:=(Try.f45.body).getD .skip
theorem agm:Try.f45.body=some Xc:=by kernel_rfl
theorem agn {d:Nat} {n m:Int} {h:aA} (bS:Tidy h):
 ∃bn bm hk,cz (d+2) (.fn 45) [Zi n,Zi m] h= .ret (.func 70 [] [Pt bn,Pt bm]) hk∧Tidy hk∧h.nx≤hk.nx∧Has h hk∧hk.get bn=some (.cells [Zi n] 3 false)∧hk.get bm=some (.cells [Zi m] 3 false)∧h.nx≤bn∧h.nx≤bm:=by
 obtain ⟨h1,cj,cg,iu,bf,cf⟩:=fY bS (aX.cells [(Zi n)] 3 false)
 obtain ⟨h2,iw,eQ,te,cO,dg⟩:=fY cg (aX.cells [(Zi m)] 3 false)
 exact ⟨_,_,_,qp rfl (ba Try.func45 agm rfl (.inr rfl) (pk (d+1) _ _ h _ h2 (NN cj (fun i=>(Pt i))<|NN iw (fun i=>(Pt i))<|CN 3<|ZZ) k!) k!) (fun q=>by cases q.2),eQ,by omega,(cf.trans dg),dg _ _ bf,cO,by omega,by omega⟩
def Mk:Code:=(Try.f48.body).getD .skip
theorem Xd:Try.f48.body=some Mk:=by kernel_rfl
def tQ (s:Int) (aL:Int):Bool:=(decide ((ah .u64 (ax .u64 s aL) 1)=1))
theorem Oc {d:Nat} {h:aA} (s:Int) (aL:Int) (pV:0≤aL) (bS:Tidy h):cz (d+1) (.fn 48) [(AV.int .u64 s),(Zi aL)] h= .ret (AV.bool (tQ s aL)) h:=by
 have u1:cy env .shr 68 false false (some (AV.int .u64 s)) (some (Zi aL))=some (AV.int .u64 (ax .u64 s aL)):=mc 68 false false .u64 .i64 o!
 have u2:cy env .and 68 false true (some (AV.int .u64 (ax .u64 s aL))) (some (AV.int .u64 1))=some (AV.int .u64 (ah .u64 (ax .u64 s aL) 1)):=mb 68 false true .u64 (ax .u64 s aL) 1
 have e:tQ s aL=(decide ((ah .u64 (ax .u64 s aL) 1)=1)):=by simp only[tQ,ak,aj]
 rw[e]
 exact aE rfl (ba Try.func48 Xd rfl (.inr rfl) (pk (d) _ _ h _ h (CN 3<|VV u1<|VV u2<|VV (lV 68 false true .u64 (ah .u64 (ax .u64 s aL) 1) 1)<|CC<|ZZ) k!) k!) (Has.refl _) rfl
def AN:Code:=(Try.f58.body).getD .skip
theorem Hv:Try.f58.body=some AN:=by kernel_rfl
def bZ (time:Int):Gate:=(⟨time,(-9223372036854775808),9223372036854775807⟩:Gate)
theorem Hw {d:Nat} {h:aA} (time:Int) (bS:Tidy h):cz (d+1) (.fn 58) [(Zi time)] h= .ret (AV.agg [(Zi (bZ time).time),(Zi (bZ time).aw),(Zi (bZ time).ar)]) h:=by
 obtain ⟨h1,cj,cg,iu,bf,cf⟩:=fY bS (aX.cells [(Zi 0),(Zi 0),(Zi 0)] 66 false)
 have bA:Has h h1:=cf
 obtain ⟨h2,ago,eQ,te,cO,vk⟩:=rA (t:=66) (n:=3) (i:=h.nx) (L:=[(Zi time),(Zi (-9223372036854775808)),(Zi 9223372036854775807)]) cg bf k! rfl rfl (by simp only[AV.cells,List.all_cons,List.all_nil,Bool.and_true,Bool.and_self,eL,dw,eM,eN,cH,gZ,g_,hB,hD,hI,eO])
 have dZ:Has h h2:=Has.cS bA vk bS o!
 have e:bZ time=(⟨time,(-9223372036854775808),9223372036854775807⟩:Gate):=by simp only[bZ,ak,aj]
 rw[e]
 exact aE rfl (hS (a:=2) (t:=66) (i:=h.nx) Try.func58 Hv rfl (.inr rfl) (pk (d) _ _ h _ h2 (NN cj (fun i=>(Pt i))<|CN 3<|SS ago<|ZZ) k!) k! (kN cO k!)) dZ rfl
def D6:Code:=(Try.f46.body).getD .skip
theorem C7:Try.f46.body=some D6:=by kernel_rfl
def dH (q:aD) (r:aK) (failed:Int):Gate:=(bif (tQ failed r.aL) then (bZ r.time) else (⟨r.time,(IntKind.i64.wrap (r.value -(iQ (q.aC.g r.aL.toNat) r.time))),(IntKind.i64.wrap (r.value+(iQ (q.aC.g r.aL.toNat) r.time)))⟩:Gate))
theorem Ml {d:Nat} {h:aA} (q:aD) (r:aK) (failed:Int) (fB:aF.ok h q) (h_r:aF.ok h r) (pV:0≤r.aL) (S9:r.aL<(q.aC.length:Int)) (bS:Tidy h):cz (d+2) (.fn 46) [(AV.agg [(AV.str q.name),(Zi q.ai),(Zi q.af),(Zi q.aH),(Zi q.aI),(Zi q.bad),q.az]),(AV.agg [(Zi r.aL),(Zi r.time),(Zi r.value)]),(AV.int .u64 failed)] h= .ret (AV.agg [(Zi (dH q r failed).time),(Zi (dH q r failed).aw),(Zi (dH q r failed).ar)]) h:=by
 have hU:=fB.2.small
 obtain ⟨h1,cj,cg,iu,bf,cf⟩:=fY bS (aX.cells [(AV.str q.name),(Zi q.ai),(Zi q.af),(Zi q.aH),(Zi q.aI),(Zi q.bad),q.az] 26 false)
 have bA:Has h h1:=cf
 obtain ⟨h2,iw,eQ,te,cO,dg⟩:=fY cg (aX.cells [(Zi r.aL),(Zi r.time),(Zi r.value)] 43 false)
 have dZ:Has h h2:=bA.trans dg
 obtain ⟨h3,tf,fA,LD,pT,dq⟩:=fY eQ (aX.cells [(Zi 0),(Zi 0),(Zi 0)] 66 false)
 have fl:Has h h3:=dZ.trans dq
 have k4:=Oc (d:=d) failed r.aL (by first | omega | assumption | (simp only[List.length_set,List.length_replicate,List.length_append,List.length_cons,List.length_nil,List.nil_append]<;>omega) | (rw[List.length_take];omega)) fA
 rcases bZq (tQ failed r.aL) with f0 | f0
 · have k6:=Hw (d:=d) r.time fA
   obtain ⟨h7,zq,mM,Py,pW,iT⟩:=rA (t:=66) (n:=3) (i:=h2.nx) (L:=[(Zi (bZ r.time).time),(Zi (bZ r.time).aw),(Zi (bZ r.time).ar)]) fA pT k! rfl rfl (by simp only[AV.cells,List.all_cons,List.all_nil,Bool.and_true,Bool.and_self,eL,dw,eM,eN,cH,gZ,g_,hB,hD,hI,eO])
   have lL:Has h h7:=Has.cS fl iT bS o!
   have e:dH q r failed=(bZ r.time):=by simp only[dH,f0,ak,aj]
   rw[e]
   exact aE rfl (hS (a:=6) (t:=66) (i:=h2.nx) Try.func46 C7 rfl (.inr rfl) (pk (d+1) _ _ h _ h7 (NN cj (fun i=>(Pt i))<|NN iw (fun i=>(Pt i))<|NN tf (fun i=>(Pt i))<|CN 2<|MM (aO 3 0 (Zi r.aL) (dq _ _ cO) k!)<|EE k4<|BC f0<|MM (aO 3 1 (Zi r.time) (dq _ _ cO) k!)<|EE k6<|SS zq<|ZZ) k!) k! (kN pW k!)) lL rfl
 · obtain ⟨p7,q8,SD⟩:=fB.2.elem (i:=r.aL.toNat) o!
   have Po:cK env (some (.slice 45)) (some q.az) (some (Zi r.aL))=some (AV.ptr p7 q8):=by rw[show (r.aL:Int)=((r.aL.toNat:Nat):Int) by omega];exact SD
   have WN:bk env h3 45 (AV.ptr p7 q8)=some (AV.agg [(AV.str (q.aC.g r.aL.toNat).name),(Zi (q.aC.g r.aL.toNat).acc),(Zi (q.aC.g r.aL.toNat).bQ),(Zi (q.aC.g r.aL.toNat).since)]):=(fB.2.has fl).load o! SD
   have k10:=JM (d:=d) (q.aC.g r.aL.toNat) r.time (aF.mono fl (fB.2.ok (i:=r.aL.toNat) o!)) fA
   have c11:AV.same 20 q.az q.az=true:=fB.2.same 19
   have Px:AV.same 20 (AV.agg [(AV.str (q.aC.g r.aL.toNat).name),(Zi (q.aC.g r.aL.toNat).acc),(Zi (q.aC.g r.aL.toNat).bQ),(Zi (q.aC.g r.aL.toNat).since)]) (AV.agg [(AV.str (q.aC.g r.aL.toNat).name),(Zi (q.aC.g r.aL.toNat).acc),(Zi (q.aC.g r.aL.toNat).bQ),(Zi (q.aC.g r.aL.toNat).since)])=true:=dM 18 (iC (fun n=>jS n _) (iC (fun n=>aJ n _ _) (iC (fun n=>aJ n _ _) (iC (fun n=>aJ n _ _) DC))))
   obtain ⟨pX,TO,pE,adR,TP,wm⟩:=rA (t:=66) (n:=3) (i:=h2.nx) (L:=[(Zi r.time),(Zi (IntKind.i64.wrap (r.value -(iQ (q.aC.g r.aL.toNat) r.time)))),(Zi (IntKind.i64.wrap (r.value+(iQ (q.aC.g r.aL.toNat) r.time))))]) fA pT k! rfl rfl (by simp only[AV.cells,List.all_cons,List.all_nil,Bool.and_true,Bool.and_self,eL,dw,eM,eN,cH,gZ,g_,hB,hD,hI,eO])
   have ma:Has h pX:=Has.cS fl wm bS o!
   have e:dH q r failed=(⟨r.time,(IntKind.i64.wrap (r.value -(iQ (q.aC.g r.aL.toNat) r.time))),(IntKind.i64.wrap (r.value+(iQ (q.aC.g r.aL.toNat) r.time)))⟩:Gate):=by simp only[dH,f0,ak,aj]
   rw[e]
   exact aE rfl (hS (a:=6) (t:=66) (i:=h2.nx) Try.func46 C7 rfl (.inr rfl) (pk (d+1) _ _ h _ pX (NN cj (fun i=>(Pt i))<|NN iw (fun i=>(Pt i))<|NN tf (fun i=>(Pt i))<|CN 2<|MM (aO 3 0 (Zi r.aL) (dq _ _ cO) k!)<|EE k4<|BC f0<|MM (aO 24 6 q.az (dq _ _ (dg _ _ bf)) k!)<|CC<|MM (aO 3 0 (Zi r.aL) (dq _ _ cO) k!)<|VV Po<|MM WN<|CC<|MM (aO 3 1 (Zi r.time) (dq _ _ cO) k!)<|EE k10<|CC<|HH (aO 24 6 q.az (dq _ _ (dg _ _ bf)) k!)<|HH c11<|HH (aO 3 0 (Zi r.aL) (dq _ _ cO) k!)<|HH (show AV.same 20 (Zi r.aL) (Zi r.aL)=true from aJ 19 _ _)<|HH WN<|HH Px<|HH (aO 3 1 (Zi r.time) (dq _ _ cO) k!)<|HH (show AV.same 20 (Zi r.time) (Zi r.time)=true from aJ 19 _ _)<|CC<|MM (aO 3 1 (Zi r.time) (dq _ _ cO) k!)<|CC<|MM (aO 3 2 (Zi r.value) (dq _ _ cO) k!)<|CN 3<|MM (aO 3 2 (Zi r.value) (dq _ _ cO) k!)<|CN 4<|SS TO<|ZZ) k!) k! (kN TP k!)) ma rfl
structure YlH {X:Type} (call:bh) (b:Nat) (ok:aA→List AV→X→Prop) (I:List X→(Nat→Prop)→aA→Prop):Prop where
 ay:∀{L P hh},I L P hh→∀k,P k→k<hh.nx
 stay:∀{L P hh hk},I L P hh→Tidy hk→hh.nx≤hk.nx→(∀k w,P k→hh.get k=some w→hk.get k=some w)→I L P hk
 next:∀{L a x P hh},L.length<1000→ok hh a x→I L P hh→Tidy hh→∃hk P',call (.ua b) a hh= .ret (.bool true) hk∧Tidy hk∧hh.nx≤hk.nx∧I (L++[x]) P' hk∧(∀k,P' k→P k∨hh.nx≤k)∧∀k w,¬P k→hh.get k=some w→hk.get k=some w
theorem bH.sl {α:Type} [aF α] {h0 h:aA} {z:AV} {l:List α} (o:bH h0 h z l) (hn:l≠ []):∃p op,z= .slice p 0 l.length l.length op∧h0.nx≤p∧h.get p=some (.cells (l.flatMap aF.c) (aF.e α) false):=by
 rcases o with ⟨_,rfl⟩ | ⟨_,p,op,e,hp,hg⟩
 · exact absurd rfl hn
 · exact ⟨p,op,e,hp,hg⟩
theorem b6.ne {z:AV} {k p o n c:Nat} {b:Bool} (ni:b6 z k) (e:z= .slice p o n c b):k≠p:=fun q=>ni _ _ _ _ (by rw[e,q])
theorem TQ {p:Prop} (h:p:=by first | omega | assumption | (simp only[List.length_set,List.length_replicate,List.length_append,List.length_cons,List.length_nil,List.nil_append]<;>omega) | (rw[List.length_take];omega)):p:=h
theorem C8 {p:Prop} (h:p:=by first | omega | (simp<;>omega)):p:=h
def nz:Code:=(Try.f44.body).getD .skip
theorem adT:Try.f44.body=some nz:=by kernel_rfl
def eG:Code:=(cc nz).getD 0 .skip
def Hx:Code:=(cc nz).getD 1 .skip
def ct (q:aD) (l:List aK) (s0:Int):Nat→Nat→List Gate→List Gate
 | 0,_,wo=>wo
 | bD+1,i1,wo=>ct q l s0 bD (i1+1) (wo++[(dH q (l.g i1) s0)])
theorem C9 {d:Nat} {rc:RC} {h:aA} (s0:Int) (lv:AV) (l:List aK) (q:aD) (rv:AV) (b:Nat) (r:List Gate) (dz:Nat) (iA:Nat) (zu:Nat) (zv:Nat) (iv:aY h lv l) (oX:q.name.length<2^60) (Cm:aY h q.az q.aC) (AO:aY h rv r) (AG:aF.ok h q) (J7:∀k,k<l.length→0≤(l.g k).aL∧(l.g k).aL<(q.aC.length:Int)) (Xe:l.length≤18) (bS:Tidy h) (D2:dz<h.nx) (W7:iA<h.nx) (agq:zu<h.nx) (agr:zv<h.nx) (Mf:iA≠dz) (aaY:zu≠dz) (aaZ:zu≠iA) (aa0:zv≠dz) (aa1:zv≠iA) (aa2:zv≠zu):∀(k_ i_:Nat) (wo:List Gate) (zw:AV) (_:i_+k_=l.length) (x:Nat→AV) (hh:aA) (aQ:Tidy hh) (aW:Has h hh) (gQ:h.nx≤hh.nx) (dP:hh.get dz=some (aX.cells [(AV.str q.name),(Zi q.ai),(Zi q.af),(Zi q.aH),(Zi q.aI),(Zi q.bad),q.az] 26 false)) (om:hh.get iA=some (aX.cells [rv] 69 false)) (Mm:hh.get zu=some (aX.cells [lv] 27 false)) (Mn:hh.get zv=some (aX.cells [(AV.cE b)] 86 false)) (J8:bH h hh zw wo) (Hy:∀y∈wo,aF.ok hh y) (YG:wo.length≤1*i_+2) (mj:b6 zw dz) (ml:b6 zw iA) (mn:b6 zw zu) (mo:b6 zw zv),th rc (σ:=List Gate) (ζ:=AV) (cz (d+8)) Hx ⟨((x 0)::(Pt dz)::(x 2)::(Pt iA)::(Pt zu)::(Pt zv)::(AV.int .u64 s0)::zw::rx x 8 15 (lv::(Zn l.length)::(Zn i_)::rx x 26 24 [])),hh,[],rc⟩ (.exit 2) hh (fun r z y=>((y 0)::(Pt dz)::(y 2)::(Pt iA)::(Pt zu)::(Pt zv)::(AV.int .u64 s0)::z::rx y 8 15 (lv::(Zn l.length)::rx y 25 25 []))) (fun r z hk=>Has h hk∧hk.get dz=some (aX.cells [(AV.str q.name),(Zi q.ai),(Zi q.af),(Zi q.aH),(Zi q.aI),(Zi q.bad),q.az] 26 false)∧hk.get iA=some (aX.cells [rv] 69 false)∧hk.get zu=some (aX.cells [lv] 27 false)∧hk.get zv=some (aX.cells [(AV.cE b)] 86 false)∧bH h hk z r∧(∀y∈r,aF.ok hk y)∧r.length≤1*l.length+2∧b6 z dz∧b6 z iA∧b6 z zu∧b6 z zv) (ct q l s0 k_ i_ wo)
 | 0,i1,wo,zw,kY,x,hh,aQ,aW,gQ,dP,om,Mm,Mn,J8,Hy,YG,mj,ml,mn,mo=>by
   have Cn:=iv.small
   have LF:=Cm.small
   have Mo:=AO.small
   have Ce:=aQ _ _ dP
   have aaS:=aQ _ _ om
   have ags:=aQ _ _ Mm
   have agt:=aQ _ _ Mn
   have rg_:=J7 i1
   have q1:(decide (((i1:Nat):Int)<((l.length:Nat):Int)))=false:=d!
   have ev:=pkc rc (d+8) Hx ((x 0)::(Pt dz)::(x 2)::(Pt iA)::(Pt zu)::(Pt zv)::(AV.int .u64 s0)::zw::rx x 8 15 (lv::(Zn l.length)::(Zn i1)::rx x 26 24 [])) hh (.exit 2) hh (VV (bK 3 false false .i64 ((i1:Nat):Int) ((l.length:Nat):Int))<|BB q1<|ZZ) k!
   exact th.out wo zw rfl ev aQ o! ⟨aW,dP,om,Mm,Mn,J8,Hy,C8,mj,ml,mn,mo⟩ k!
 | bD+1,i1,wo,zw,kY,x,hh,aQ,aW,gQ,dP,om,Mm,Mn,J8,Hy,YG,mj,ml,mn,mo=>by
   have Cn:=iv.small
   have LF:=Cm.small
   have Mo:=AO.small
   have Ce:=aQ _ _ dP
   have aaS:=aQ _ _ om
   have ags:=aQ _ _ Mm
   have agt:=aQ _ _ Mn
   have rg_:=J7 i1
   have q1:(decide (((i1:Nat):Int)<((l.length:Nat):Int)))=true:=d!
   obtain ⟨p3,q4,oY⟩:=iv.elem (i:=i1) o!
   have A1:cK env (some (.slice 43)) (some lv) (some (Zn i1))=some (AV.ptr p3 q4):=oY
   have DV:bk env hh 43 (AV.ptr p3 q4)=some (AV.agg [(Zi (l.g i1).aL),(Zi (l.g i1).time),(Zi (l.g i1).value)]):=(iv.has aW).load o! oY
   obtain ⟨h6,tu,qx,LP,vU,gC⟩:=fY aQ (aX.cells [(Zi 0),(Zi 0),(Zi 0)] 43 false)
   have pt:Has h h6:=aW.trans gC
   have Od:Has hh h6:=gC
   obtain ⟨h7,zq,mM,Py,pW,iT⟩:=rA (t:=43) (n:=3) (i:=hh.nx) (L:=[(Zi (l.g i1).aL),(Zi (l.g i1).time),(Zi (l.g i1).value)]) qx vU k! rfl rfl (by simp only[AV.cells,List.all_cons,List.all_nil,Bool.and_true,Bool.and_self,eL,dw,eM,eN,cH,gZ,g_,hB,hD,hI,eO])
   have lL:Has h h7:=Has.cS pt iT bS o!
   have Xf:Has hh h7:=Has.cS Od iT aQ o!
   have Mp:bH h h7 zw wo:=bH.kept (bH.has J8 Od) iT (bH.SK aQ J8 o!)
   have k8:=Ml (d:=d+6) q (l.g i1) s0 (aF.mono lL AG) trivial TQ TQ mM
   obtain ⟨h9,aa3,nM,SN,Cq,zx⟩:=fY mM (aX.cells [(Zi (dH q (l.g i1) s0).time),(Zi (dH q (l.g i1) s0).aw),(Zi (dH q (l.g i1) s0).ar)] 66 false)
   have jM:Has h h9:=lL.trans zx
   have aeX:Has hh h9:=Xf.trans zx
   have Xg:Has h7 h9:=zx
   obtain ⟨z11,mA,Mq,fZ,Cg,TR,aa4,rO,Hz⟩:=bH.B_ (tys:= #[69,69]) (l:=wo) (m:=[(dH q (l.g i1) s0)]) (x:=(AV.slice h7.nx 0 1 1 false)) nM bS jM o! (bH.has Mp Xg) rfl (jk (x:=(dH q (l.g i1) s0)) Cq) (by simp [aF.c,Gate.c,AV.scalar]) C8 rfl rfl k! k! (bytes:=24) k! (z0:=(AV.agg [(Zi 0),(Zi 0),(Zi 0)])) k! rfl (by decide)
   have ik:Has h mA:=TR
   have aa5:∀y∈(wo++[(dH q (l.g i1) s0)]),aF.ok mA y:=eP (D:=Gate) (mJ (eP (D:=Gate) (h':=h9) Hy) (ok_one trivial))
   have SO:=fu 3 false true i1 1 o!
   have ev:=pkc rc (d+8) Hx ((x 0)::(Pt dz)::(x 2)::(Pt iA)::(Pt zu)::(Pt zv)::(AV.int .u64 s0)::zw::rx x 8 15 (lv::(Zn l.length)::(Zn i1)::rx x 26 24 [])) hh .normal mA (VV (bK 3 false false .i64 ((i1:Nat):Int) ((l.length:Nat):Int))<|BV q1 A1<|MM DV<|NN tu (fun i=>(Pt i))<|SS zq<|CC<|MM (aO 26 0 (AV.agg [(AV.str q.name),(Zi q.ai),(Zi q.af),(Zi q.aH),(Zi q.aI),(Zi q.bad),q.az]) (iT _ _ o! (gC _ _ dP)) k!)<|MM (aO 43 0 (AV.agg [(Zi (l.g i1).aL),(Zi (l.g i1).time),(Zi (l.g i1).value)]) pW k!)<|CC<|EE k8<|NN aa3 (fun i=>(AV.slice i 0 1 1 false))<|PP (show bX env h9 #[69,69] zw (AV.slice h7.nx 0 1 1 false)=some (z11,mA) from Mq)<|CC<|VV SO<|CC<|ZZ) k!
   exact th.round (by simp only[ct,ak,aj]) ev o! _ k! (fun x=>C9 s0 lv l q rv b r dz iA zu zv iv oX Cm AO AG J7 Xe bS D2 W7 agq agr Mf aaY aaZ aa0 aa1 aa2 bD (i1+1) (wo++[(dH q (l.g i1) s0)]) z11 o! x mA fZ ik o! (rO _ _ mj (zx _ _ (iT _ _ o! (gC _ _ dP)))) (rO _ _ ml (zx _ _ (iT _ _ o! (gC _ _ om)))) (rO _ _ mn (zx _ _ (iT _ _ o! (gC _ _ Mm)))) (rO _ _ mo (zx _ _ (iT _ _ o! (gC _ _ Mn)))) aa4 aa5 C8 (Hz _ (nM _ _ (zx _ _ (iT _ _ o! (gC _ _ dP)))) mj) (Hz _ (nM _ _ (zx _ _ (iT _ _ o! (gC _ _ om)))) ml) (Hz _ (nM _ _ (zx _ _ (iT _ _ o! (gC _ _ Mm)))) mn) (Hz _ (nM _ _ (zx _ _ (iT _ _ o! (gC _ _ Mn)))) mo))
theorem Mr (q:aD) (l:List aK) (s0:Int):∀(k i:Nat) (v:List Gate),i+k=l.length→ct q l s0 k i v=v++(l.drop i).map fun r=>dH q r s0
 | 0,i,v,h=>by rw[ct,List.drop_eq_nil_of_le o!,List.map_nil,List.append_nil]
 | k+1,i,v,h=>by
   rw[ct,Mr q l s0 k (i+1) _ o!,List.drop_eq_getElem_cons (show i<l.length by omega),List.map_cons,List.append_assoc]
   have:l.g i=l[i]'o! :=by rw[List.g,List.getD_eq_getElem?_getD,List.getElem?_eq_getElem o!];rfl
   rw[this];rfl
theorem C_ {q:aD} {l:List aK} {s0:Int} {g:Gate} {r:List Gate} (_:Unit):ct q l s0 l.length 0 ([g]++r)≠ []:=by
 rw[Mr q l s0 _ _ _ o!];simp
theorem TU {d:Nat} {h:aA} {q:aD} {l:List aK} {r:List Gate} {m s0:Int} {lv rv:AV} {b bq bm br bl by_ lp:Nat} (x:Nat→AV) (bS:Tidy h) (hq:aF.ok h q) (hl:aY h lv l) (hr:aY h rv r) (Ik:l.length≤18) (hrl:r.length≤1) (hg:∀k,k<l.length→0≤(l.g k).aL∧(l.g k).aL<(q.aC.length:Int)) (gq:h.get bq=some (.cells (aF.c q) 26 false)) (gm:h.get bm=some (.cells [Zi m] 3 false)) (gr:h.get br=some (.cells [rv] 69 false)) (gl:h.get bl=some (.cells [lv] 27 false)) (gy:h.get by_=some (.cells [.cE b] 86 false)) (dd:bq<bl∧bl<bm∧bm<br∧br<by_) (hc:(iV q (ct q l s0 l.length 0 (([(⟨0,q.ai,q.af⟩:Gate)])++r)).length ((ct q l s0 l.length 0 (([(⟨0,q.ai,q.af⟩:Gate)])++r)).length - 1) 1 (eI (ct q l s0 l.length 0 (([(⟨0,q.ai,q.af⟩:Gate)])++r)).length ((ct q l s0 l.length 0 (([(⟨0,q.ai,q.af⟩:Gate)])++r)).length - 1) 1 (ct q l s0 l.length 0 (([(⟨0,q.ai,q.af⟩:Gate)])++r))))=none):
 ∃kz h',Ev env (cz (d+8)) eG ⟨((AV.cE b)::(Pt bq)::(Pt bm)::(Pt br)::(Pt bl)::(Pt by_)::(AV.int .u64 s0)::rx x 7 9 ((AV.int .u64 s0)::rx x 17 33 [])),h,[],.sm lp⟩ .normal ⟨kz,h',[],.sm lp⟩∧Tidy h'∧h.nx≤h'.nx∧Has h h':=by
 have T_q:=bS _ _ gq
 have T_m:=bS _ _ gm
 have T_r:=bS _ _ gr
 have T_l:=bS _ _ gl
 have T_y:=bS _ _ gy
 have s_l:=hl.small
 have s_r:=hr.small
 obtain ⟨h1,cj,cg,iu,bf,cf⟩:=fY bS (aX.cells [(Zi 0),(Zi q.ai),(Zi q.af)] 66 false)
 have bA:Has h h1:=cf
 have oz5:bH h h1 (AV.slice h.nx 0 1 1 false) [(⟨0,q.ai,q.af⟩:Gate)]:= .inr ⟨by simp,h.nx,false,rfl,by omega,bf⟩
 obtain ⟨z3,h2,TV,eQ,zn,aa6,oz4,tR,ym⟩:=bH.B_ (tys:= #[69,69]) (l:=[(⟨0,q.ai,q.af⟩:Gate)]) (m:=r) (x:=rv) cg bS bA o! oz5 (hr.has bA).nE (hr.has bA).first (zZ (hr.has bA) (fun y hy=>by simp [aF.c,Gate.c,AV.scalar])) C8 rfl rfl k! k! (bytes:=24) k! (z0:=(AV.agg [(Zi 0),(Zi 0),(Zi 0)])) k! rfl (by decide)
 have dZ:Has h h2:=aa6
 have TW:∀y∈(([(⟨0,q.ai,q.af⟩:Gate)])++r),aF.ok h2 y:=eP (D:=Gate) (mJ (eP (D:=Gate) (h':=h1) (ok_one (h:=h1) trivial)) (hr.has bA).Va)
 have Xh:dy (some (.slice 43)) (some lv)=some (Zn l.length):=hl.len
 obtain ⟨zo9,PK,h8,tS,uS,PD,Da,tT,aa7,aa8,TX,Db,HA,aa9,AP,AQ,AR,r6⟩:=C9 (d:=d) (rc:=(.sm lp)) (h:=h) s0 lv l q rv b r bq br bl by_ hl hq.1 hq.2 hr hq hg Ik bS o! o! o! o! o! o! o! o! o! o! l.length 0 (([(⟨0,q.ai,q.af⟩:Gate)])++r) z3 o! (fun k_=>(((AV.cE b)::(Pt bq)::(Pt bm)::(Pt br)::(Pt bl)::(Pt by_)::(AV.int .u64 s0)::z3::rx x 8 8 ((AV.int .u64 s0)::(AV.ptr bq 1)::(AV.agg [(Zi q.ai),(Zi q.af)])::(AV.agg [(Zi 0),(Zi q.ai),(Zi q.af)])::(AV.slice h.nx 0 1 1 false)::rv::z3::lv::(Zn l.length)::(Zi 0)::rx x 26 24 [])):List AV).getD k_ AV.undef) h2 eQ dZ o! (tR _ _ (b6.slice o!) (cf _ _ gq)) (tR _ _ (b6.slice o!) (cf _ _ gr)) (tR _ _ (b6.slice o!) (cf _ _ gl)) (tR _ _ (b6.slice o!) (cf _ _ gy)) oz4 TW C8 (ym _ (cg _ _ (cf _ _ gq)) (b6.slice o!)) (ym _ (cg _ _ (cf _ _ gr)) (b6.slice o!)) (ym _ (cg _ _ (cf _ _ gl)) (b6.slice o!)) (ym _ (cg _ _ (cf _ _ gy)) (b6.slice o!))
 have Ms:aY h8 zo9 (ct q l s0 l.length 0 (([(⟨0,q.ai,q.af⟩:Gate)])++r)):=bH.rows Db o! HA
 have Xi:=Ms.small
 have qE:Has h h8:=Da
 obtain ⟨Xj,TY,HB,Dc,Mt⟩:=bH.sl Db (C_ ())
 obtain ⟨mA,aba,Dd,fZ,Cg,rO,TZ,Mu⟩:=adO (d:=d) (g:=h) (p:=Xj) (op:=TY) (L:=(ct q l s0 l.length 0 (([(⟨0,q.ai,q.af⟩:Gate)])++r))) q hq qE (A3 bS Dc) uS Mt rfl o! (List.length_pos_iff.2 (C_ ()))
 rw[TZ hc] at Dd
 have T3:(cz (d+8)) (.fn 47) [(AV.agg [(AV.str q.name),(Zi q.ai),(Zi q.af),(Zi q.aH),(Zi q.aI),(Zi q.bad),q.az]),zo9] h8= .ret AV.aP mA:=by rw[HB];exact Dd
 have ik:Has h mA:=(Has.cS qE rO bS Dc)
 have ev:=pkc (.sm lp) (d+8) eG ((AV.cE b)::(Pt bq)::(Pt bm)::(Pt br)::(Pt bl)::(Pt by_)::(AV.int .u64 s0)::rx x 7 9 ((AV.int .u64 s0)::rx x 17 33 [])) h .normal mA (CC<|MM (aO 23 1 (AV.agg [(Zi q.ai),(Zi q.af)]) gq k!)<|CC<|NN cj (fun i=>(AV.slice i 0 1 1 false))<|MM (aO 69 0 rv (cf _ _ gr) k!)<|PP (show bX env h1 #[69,69] (AV.slice h.nx 0 1 1 false) rv=some (z3,h2) from TV)<|CC<|MM (aO 27 0 lv (tR _ _ (b6.slice o!) (cf _ _ gl)) k!)<|VV Xh<|CC<|LL tS<|MM (aO 26 0 (AV.agg [(AV.str q.name),(Zi q.ai),(Zi q.af),(Zi q.aH),(Zi q.aI),(Zi q.bad),q.az]) tT k!)<|CC<|EE T3<|CN 5<|FF<|FF<|FF<|FF<|FF<|CC<|FF<|ZZ) k!
 exact ⟨_,_,ev,fZ,by omega,ik⟩
def T6:Code→Code
 | .seq a b=>match T6 a with
   | .skip=>T6 b
   | c=>c
 | .block _ b=>T6 b
 | .rangeFunc _ _ a _=>a
 | _=> .skip
def gR:Code:=T6 nz
theorem Fo {call:bh} {c:Code} {s:St} {e:iB} {L L':List AV} {h:aA} {rc:RC} (q:L=L') (ev:Ev env call c s e ⟨L,h,[],rc⟩):Ev env call c s e ⟨L',h,[],rc⟩:=q▸ev
theorem Oe {d:Nat} (x:Nat→AV) (b bq bm br bl by_ lp:Nat) (s0:Int) (h:aA):
 Ev env (cz (d+8)) gR ⟨(AV.cE b)::(Pt bq)::(Pt bm)::(Pt br)::(Pt bl)::(Pt by_)::rx x 6 10 ((AV.int .u64 s0)::rx x 17 33 []),h,[],.sm lp⟩ .normal ⟨(AV.cE b)::(Pt bq)::(Pt bm)::(Pt br)::(Pt bl)::(Pt by_)::(AV.int .u64 s0)::rx x 7 9 ((AV.int .u64 s0)::rx x 17 33 []),h,[],.sm lp⟩:=by
 have ev:=pkc (.sm lp) (d+8) gR ((AV.cE b)::(Pt bq)::(Pt bm)::(Pt br)::(Pt bl)::(Pt by_)::rx x 6 10 ((AV.int .u64 s0)::rx x 17 33 [])) h .normal h (CC<|ZZ) k!
 exact Fo (by kernel_rfl) ev
theorem Of (x:Nat→AV) (b bq bm br bl by_:Nat) (a:AV):([16].zip [a]).foldl (fun ts y=>ts.set y.1 y.2) ((AV.cE b)::(Pt bq)::(Pt bm)::(Pt br)::(Pt bl)::(Pt by_)::rx x 6 44 [])=(AV.cE b)::(Pt bq)::(Pt bm)::(Pt br)::(Pt bl)::(Pt by_)::rx x 6 10 (a::rx x 17 33 []):=by kernel_rfl
def tU (q:aD) (l:List aK) (r:List Gate) (s0:Int):Nat:=(ct q l s0 l.length 0 (([(⟨0,q.ai,q.af⟩:Gate)])++r)).length
def cq (q:aD) (l:List aK) (r:List Gate) (s0:Int):Option (List Gate):=(iV q (ct q l s0 l.length 0 (([(⟨0,q.ai,q.af⟩:Gate)])++r)).length ((ct q l s0 l.length 0 (([(⟨0,q.ai,q.af⟩:Gate)])++r)).length - 1) 1 (eI (ct q l s0 l.length 0 (([(⟨0,q.ai,q.af⟩:Gate)])++r)).length ((ct q l s0 l.length 0 (([(⟨0,q.ai,q.af⟩:Gate)])++r)).length - 1) 1 (ct q l s0 l.length 0 (([(⟨0,q.ai,q.af⟩:Gate)])++r)))).map (jy q ((ct q l s0 l.length 0 (([(⟨0,q.ai,q.af⟩:Gate)])++r)).length - 1) 0)
def Al (q:aD) (l:List aK) (r:List Gate):List AV→Option (Int×List Gate)
 | [.int .u64 s]=>(cq q l r s).map fun w=>(s,w)
 | _=>none
def jF (x:Nat→AV) (b bq bm br bl by_:Nat):List AV:=(AV.cE b)::(Pt bq)::(Pt bm)::(Pt br)::(Pt bl)::(Pt by_)::rx x 6 44 []
def sq1:Code→Code
 | .seq a _=>a
 | c=>c
def sq2:Code→Code
 | .seq _ b=>b
 | c=>c
def YH:Code:=sq1 nz
def YI:Code:=sq1 (sq2 nz)
theorem Fq:nz= .seq YH (.seq YI (.block 0 (.rangeFunc (.tmp 15) #[16] gR eG))):=by kernel_rfl
theorem Ev.abc {call:bh} {i:Nat} {b:Code} {s s':St} (h:Ev env call b s .normal s'):Ev env call (.block i b) s .normal s':=by
 obtain ⟨n0,h3⟩:=h
 refine ⟨n0+1,fun n hn=>?_⟩
 obtain ⟨k,rfl⟩:∃k,n=k+1:=⟨n - 1,by omega⟩
 rw[xn,h3 k o!]
 rfl
def yn (q:aD) (l:List aK) (r:List Gate) (m:Int):List (Int×List Gate):=(jK m (d_ .u64 1 ((q.aC.length:Nat):Int)).toNat 0).filterMap (Al q l r)
def qJ:Code:=(Try.f76.body).getD .skip
theorem vl:Try.f76.body=some qJ:=by kernel_rfl
def AS:Code:=(cc qJ).getD 0 .skip
def eT (s:List Gate) (P:Gate→Bool):Nat→Nat→Option (Int)
 | 0,_=>none
 | dQ+1,i0=>(bif (P (s.g i0)) then some ((i0:Nat):Int) else eT s P dQ (i0+1))
theorem mQ {d:Nat} {h:aA} (sV:AV) (g:FuncId) (cap:List AV) (s:List Gate) (P:Gate→Bool) (bF:aY h sV s) (hP:∀y∈s,∀hh,Tidy hh→Has h hh→cz d (.fn g) (.agg (aF.c y)::cap) hh= .ret (.bool (P y)) hh):∀(k_ i_:Nat) (_:i_+k_=s.length) (x:Nat→AV) (hh:aA) (aQ:Tidy hh) (aW:Has h hh),aU (cz (d)) AS ⟨(sV::(AV.func g [] cap)::rx x 2 5 ((Zn s.length)::(Zn i_)::rx x 9 10 [])),hh,[],.no⟩ (.exit 0) hh (fun y=>(sV::(AV.func g [] cap)::rx y 2 5 ((Zn s.length)::rx y 8 11 []))) (fun r y=>(sV::(AV.func g [] cap)::(y 2)::(y 3)::(Zi r)::(y 5)::(y 6)::(Zn s.length)::rx y 8 11 [])) (eT s P k_ i_)
 | 0,i0,kY,x,hh,aQ,aW=>by
   have eR:=bF.small
   have q1:(decide (((i0:Nat):Int)<((s.length:Nat):Int)))=false:=d!
   exact aU.out rfl (pk (d) _ _ hh _ hh (VV (bK 3 false false .i64 ((i0:Nat):Int) ((s.length:Nat):Int))<|BB q1<|ZZ) k!) (Grow.refl aQ) k!
 | dQ+1,i0,kY,x,hh,aQ,aW=>by
   have eR:=bF.small
   have q1:(decide (((i0:Nat):Int)<((s.length:Nat):Int)))=true:=d!
   obtain ⟨p3,q4,oY⟩:=(bF.has aW).elem (i:=i0) o!
   have A1:cK env (some (.slice 66)) (some sV) (some (Zn i0))=some (AV.ptr p3 q4):=oY
   have DV:bk env hh 66 (AV.ptr p3 q4)=some (AV.agg [(Zi (s.g i0).time),(Zi (s.g i0).aw),(Zi (s.g i0).ar)]):=(bF.has aW).load o! oY
   have k6:=hP (s.g i0) (lW o!) hh aQ aW
   rcases bZq (P (s.g i0)) with f1 | f1
   · exact aU.ret ((i0:Nat):Int) (by simp only[eT,f1,ak,aj]) (pk (d) _ _ hh _ hh (VV (bK 3 false false .i64 ((i0:Nat):Int) ((s.length:Nat):Int))<|BB q1<|CN 5<|VV A1<|MM DV<|EE k6<|BB f1<|CN 2<|ZZ) k!) (Grow.refl aQ) k!
   · have u8:=fu 3 false true i0 1 o!
     exact aU.round (by simp only[eT,f1,ak,aj]) (pk (d) _ _ hh _ hh (VV (bK 3 false false .i64 ((i0:Nat):Int) ((s.length:Nat):Int))<|BB q1<|CN 5<|VV A1<|MM DV<|EE k6<|BV f1 u8<|CC<|ZZ) k!) (Grow.refl aQ) _ k! (fun x=>mQ sV g cap s P bF hP dQ (i0+1) o! x hh aQ aW)
def bz (s:List Gate) (P:Gate→Bool):Int:=(match (eT s P s.length 0) with | none=>(-1) | some LG=>LG)
theorem D7 {d:Nat} {h:aA} {sV:AV} {g:FuncId} {cap:List AV} (s:List Gate) (P:Gate→Bool) (Ca:aY h sV s) (hP:∀y∈s,∀hh,Tidy hh→Has h hh→cz d (.fn g) (.agg (aF.c y)::cap) hh= .ret (.bool (P y)) hh) (bS:Tidy h):cz (d+1) (.fn 76) [sV,(AV.func g [] cap)] h= .ret (Zi (bz s P)) h:=by
 have NW:=Ca.small
 have ja:dy (some (.slice 66)) (some sV)=some (Zn s.length):=Ca.len
 cases jn:eT s P s.length 0 with
 | none=>
   obtain ⟨Qq,h3,fG,gP⟩:=aU.n jn (mQ (d:=d) (h:=h) sV g cap s P Ca hP s.length 0 o! (fun k_=>((sV::(AV.func g [] cap)::AV.undef::AV.undef::(Zi 0)::AV.undef::sV::(Zn s.length)::(Zi 0)::iL 10):List AV).getD k_ AV.undef) h bS (Has.refl _))
   have fA:=gP.y
   have qw:h.nx≤h3.nx:=gP.n
   have fl:Has h h3:=gP.a
   have e:bz s P=(-1):=by simp only[bz,jn,ak,aj]
   rw[e]
   exact aE rfl (ba Try.func76 vl rfl (.inr rfl) (pk (d) _ _ h _ h3 (CN 2<|VV ja<|CC<|LL fG<|CC<|ZZ) k!) k!) fl rfl
 | some LG=>
   obtain ⟨Qq,h3,fG,gP⟩:=aU.r jn (mQ (d:=d) (h:=h) sV g cap s P Ca hP s.length 0 o! (fun k_=>((sV::(AV.func g [] cap)::AV.undef::AV.undef::(Zi 0)::AV.undef::sV::(Zn s.length)::(Zi 0)::iL 10):List AV).getD k_ AV.undef) h bS (Has.refl _))
   have fA:=gP.y
   have qw:h.nx≤h3.nx:=gP.n
   have fl:Has h h3:=gP.a
   have e:bz s P=LG:=by simp only[bz,jn,ak,aj]
   rw[e]
   exact aE rfl (ba Try.func76 vl rfl (.inr rfl) (pk (d) _ _ h _ h3 (CN 2<|VV ja<|CC<|LL fG<|ZZ) k!) k!) fl rfl
def Mv:Code:=(Try.f77.body).getD .skip
theorem Xk:Try.f77.body=some Mv:=by kernel_rfl
def eU (o:Gate) (t:Int):Bool:=(decide (o.time=t))
theorem Xl {d:Nat} {h:aA} (o:Gate) (t:Int) (tB:Nat) (h_o:aF.ok h o) (g_t:h.get tB=some (aX.cells [(Zi t)] 3 false)) (bS:Tidy h):cz (d+1) (.fn 77) [(AV.agg [(Zi o.time),(Zi o.aw),(Zi o.ar)]),(Pt tB)] h= .ret (AV.bool (eU o t)) h:=by
 obtain ⟨h1,cj,cg,iu,bf,cf⟩:=fY bS (aX.cells [(Zi o.time),(Zi o.aw),(Zi o.ar)] 66 false)
 have bA:Has h h1:=cf
 have e:eU o t=(decide (o.time=t)):=by simp only[eU,ak,aj]
 rw[e]
 exact aE rfl (ba Try.func77 Xk rfl (.inr rfl) (pk (d) _ _ h _ h1 (NN cj (fun i=>(Pt i))<|CN 2<|MM (aO 3 0 (Zi o.time) bf k!)<|MM (aO 3 0 (Zi t) (cf _ _ g_t) k!)<|VV (lV 3 false false .i64 o.time t)<|CC<|ZZ) k!) k!) bA rfl
def PL:Code:=(Try.f49.body).getD .skip
theorem abd:Try.f49.body=some PL:=by kernel_rfl
def nA (c:List Gate) (t:Int):Span:=(⟨(c.g (bz c (fun y=>eU y t)).toNat).aw,(c.g (bz c (fun y=>eU y t)).toNat).ar⟩:Span)
theorem abe {d:Nat} {h:aA} {cV:AV} (c:List Gate) (t:Int) (Tn:aY h cV c) (pV:0≤bz c (fun y=>eU y t)) (S9:bz c (fun y=>eU y t)<(c.length:Int)) (bS:Tidy h):cz (d+3) (.fn 49) [cV,(Zi t)] h= .ret (AV.agg [(Zi (nA c t).ay),(Zi (nA c t).aq)]) h:=by
 have adV:=Tn.small
 obtain ⟨h1,cj,cg,iu,bf,cf⟩:=fY bS (aX.cells [(Zi t)] 3 false)
 have bA:Has h h1:=cf
 obtain ⟨h2,iw,eQ,te,cO,dg⟩:=fY cg (aX.cells [(Zi 0),(Zi 0)] 23 false)
 have dZ:Has h h2:=bA.trans dg
 have k3:=D7 (d:=d+1) c (fun y=>eU y t) (Tn.has dZ) (fun y hy hh yy aa=>Xl (d:=d) y t h.nx (aF.mono aa ((Tn.has dZ).Va y hy)) (aa _ _ (dg _ _ bf)) yy) eQ
 obtain ⟨p5,q6,SF⟩:=Tn.elem (i:=(bz c (fun y=>eU y t)).toNat) o!
 have Qo:cK env (some (.slice 66)) (some cV) (some (Zi (bz c (fun y=>eU y t))))=some (AV.ptr p5 q6):=by rw[show ((bz c (fun y=>eU y t)):Int)=(((bz c (fun y=>eU y t)).toNat:Nat):Int) by omega];exact SF
 have ld7:bk env h2 23 (AV.ptr p5 (q6+1))=some (AV.agg [(Zi (c.g (bz c (fun y=>eU y t)).toNat).aw),(Zi (c.g (bz c (fun y=>eU y t)).toNat).ar)]):=(Tn.has dZ).Yb (t:=23) (j:=1) (n:=2) o! SF k! k! (by decide) rfl
 obtain ⟨h8,agu,uS,aiq,agv,adW⟩:=rA (t:=23) (n:=2) (i:=h1.nx) (L:=[(Zi (c.g (bz c (fun y=>eU y t)).toNat).aw),(Zi (c.g (bz c (fun y=>eU y t)).toNat).ar)]) eQ cO k! rfl rfl (by simp only[AV.cells,List.all_cons,List.all_nil,Bool.and_true,Bool.and_self,eL,dw,eM,eN,cH,gZ,g_,hB,hD,hI,eO])
 have qE:Has h h8:=Has.cS dZ adW bS o!
 have e:nA c t=(⟨(c.g (bz c (fun y=>eU y t)).toNat).aw,(c.g (bz c (fun y=>eU y t)).toNat).ar⟩:Span):=by simp only[nA,ak,aj]
 rw[e]
 exact aE rfl (hS (a:=4) (t:=23) (i:=h1.nx) Try.func49 abd rfl (.inr rfl) (pk (d+2) _ _ h _ h8 (NN cj (fun i=>(Pt i))<|NN iw (fun i=>(Pt i))<|CN 3<|EE k3<|VV Qo<|CC<|MM ld7<|SS agu<|ZZ) k!) k! (kN agv k!)) qE rfl
def adX:Bool:=(List.range 256).all fun s=>decide (j7 ((s:Nat):Int)=(sz s:Int))
theorem T_:adX=true:=by decide+kernel
theorem A4 {s:Nat} (h:s<256):j7 ((s:Nat):Int)=(sz s:Int):=of_decide_eq_true (List.all_eq_true.1 T_ s (List.mem_range.2 h))
def hasB:Bool:=(List.range 256).all fun s=>(List.range 8).all fun g=>tQ ((s:Nat):Int) ((g:Nat):Int)==s.testBit g
theorem Xm:hasB=true:=by decide+kernel
theorem abf {s:Nat} {g:Int} (h:s<256) (g0:0≤g) (g1:g<8):tQ ((s:Nat):Int) g=s.testBit g.toNat:=by
 obtain ⟨k,rfl⟩:∃k:Nat,g=k:=⟨g.toNat,by omega⟩
 have:=List.all_eq_true.1 (List.all_eq_true.1 Xm s (List.mem_range.2 h)) k (List.mem_range.2 o!)
 simpa using this
theorem HC {n:Nat} (h:n≤8):(d_ .u64 1 ((n:Nat):Int)).toNat=2^n:=by
 have:∀n:Nat,n<9→(d_ .u64 1 ((n:Nat):Int)).toNat=2^n:=by decide+kernel
 exact this n o!
def pe (q:aD) (l:List aK) (r:List Gate) (s0:Int):List Gate:=([(⟨0,q.ai,q.af⟩:Gate)]++r)++l.map fun x=>dH q x s0
theorem T' (q:aD) (l:List aK) (r:List Gate) (s0:Int):ct q l s0 l.length 0 (([(⟨0,q.ai,q.af⟩:Gate)])++r)=pe q l r s0:=by
 rw[Mr q l s0 l.length 0 _ o!,List.drop_zero,pe]
theorem A5 (q:aD) (l:List aK) (r:List Gate) (s0:Int):cq q l r s0=(iV q (pe q l r s0).length ((pe q l r s0).length - 1) 1 (lH (pe q l r s0))).map (jy q ((pe q l r s0).length - 1) 0):=by
 rw[cq,T',lH]
theorem adY (q:aD) (l:List aK) (r:List Gate) (s0:Int):tU q l r s0=(pe q l r s0).length:=by
 rw[tU,T']
theorem pM (q:aD) (l:List aK) (r:List Gate) (s0:Int):(pe q l r s0).length=1+r.length+l.length:=by
 rw[pe,List.length_append,List.length_append,List.length_map,List.length_singleton]
section
variable {q:aD} {l:List aK} (f:RF q l) {s:Nat} (hs:s<256)
include f hs
theorem Oh {j:Nat} (hj:j<l.length):dH q (l.g j) ((s:Nat):Int)=if s.testBit (l.g j).aL.toNat then bZ (l.g j).time else ⟨(Af q (l.g j)).time,(Af q (l.g j)).aw,(Af q (l.g j)).ar⟩:=by
 obtain ⟨⟨g1,g2⟩,⟨g3,g4⟩,g5,g6⟩:=f.read j hj
 have hb:=f.bad
 have hg:=f.aL (l.g j).aL.toNat o!
 obtain ⟨w1,w2⟩:=qF hg g3 g4
 rw[dH,abf hs g1 o!]
 cases s.testBit (l.g j).aL.toNat with
 | true=>rfl
 | false=>
   rw[aj,Tx ⟨hg.2.2.2.2.1,hg.2.2.2.2.2⟩ g3 g4,PH o! o!,PH o! o!];rfl
theorem lh {r:List Gate} {g:Gate}:g∈pe q l r ((s:Nat):Int)↔g=⟨0,q.ai,q.af⟩∨g∈r∨∃j,j<l.length∧g=if s.testBit (l.g j).aL.toNat then bZ (l.g j).time else ⟨(Af q (l.g j)).time,(Af q (l.g j)).aw,(Af q (l.g j)).ar⟩:=by
 rw[pe,List.mem_append,List.mem_append,List.mem_singleton,List.mem_map,or_assoc]
 refine or_congr Iff.rfl (or_congr Iff.rfl ⟨fun ⟨x,hx,e⟩=>?_,fun ⟨j,hj,e⟩=>?_⟩)
 · obtain ⟨j,hj,rfl⟩:=List.mem_iff_getElem.1 hx
   refine ⟨j,hj,?_⟩
   rw[←Oh f hs hj,kI hj];exact e.symm
 · refine ⟨l.g j,by rw[kI hj];exact List.getElem_mem hj,?_⟩
   rw[Oh f hs hj];exact e.symm
omit f hs in
theorem HD {t:Int}:¬KB (kn (bZ t)):=fun h=>by
 have:=h.2.1
 simp only[kn,bZ] at this
 omega
theorem PM {r:List Gate} (hr:∀g∈r,∃t,0≤t∧t≤100000∧g=bZ t):J1 (lH (pe q l r ((s:Nat):Int)))∧∀c,KG (lH (pe q l r ((s:Nat):Int))) c↔KS q l s c:=by
 have fs:=f.start
 have k0:KB (kn (⟨0,q.ai,q.af⟩:Gate)):=⟨⟨by simp [kn],by simp [kn]⟩,by simp only[kn];omega,by simp only[kn];omega,by simp only[kn];omega,by simp only[kn];omega⟩
 have h0:(pe q l r ((s:Nat):Int)).g 0=⟨0,q.ai,q.af⟩:=rfl
 have ht:∀g∈pe q l r ((s:Nat):Int),(0≤g.time∧g.time≤100000)∧(KB (kn g)∨Open g)∧g.aw≤g.ar:=fun g hg=>by
  rcases (lh f hs).1 hg with rfl | hg | ⟨j,hj,e⟩
  · exact ⟨⟨Int.le_refl _,by simp only;omega⟩,.inl k0,by simp only;omega⟩
  · obtain ⟨t,t0,t1,rfl⟩:=hr _ hg
    exact ⟨⟨t0,t1⟩,.inr ⟨rfl,rfl⟩,by simp only[bZ];omega⟩
  · obtain ⟨⟨g1,g2⟩,⟨g3,g4⟩,g5,g6⟩:=f.read j hj
    have hb:=f.bad
    obtain ⟨w1,w2⟩:=qF (f.aL (l.g j).aL.toNat o!) g3 g4
    cases e1:s.testBit (l.g j).aL.toNat with
    | true=>rw[e1,if_pos rfl] at e;subst e;exact ⟨⟨g3,g4⟩,.inr ⟨rfl,rfl⟩,by simp only[bZ];omega⟩
    | false=>rw[e1,if_neg (by decide)] at e;subst e;exact ⟨⟨g3,g4⟩,.inl (CK f hj),by simp only[Af];omega⟩
 obtain ⟨a,b⟩:=J4 (L:=pe q l r ((s:Nat):Int)) (by rw[pM];omega) ht (by rw[h0]) (by rw[h0];exact k0)
 refine ⟨a,fun c=>?_⟩
 rw[b]
 constructor
 · rintro ⟨g,hg,kb,rfl⟩
   rcases (lh f hs).1 hg with rfl | hg | ⟨j,hj,e⟩
   · exact .inl rfl
   · obtain ⟨t,_,_,rfl⟩:=hr _ hg
     exact absurd kb (HD)
   · cases e1:s.testBit (l.g j).aL.toNat with
     | true=>rw[e1,if_pos rfl] at e;subst e;exact absurd kb (HD)
     | false=>rw[e1,if_neg (by decide)] at e;subst e;exact .inr ⟨j,hj,e1,rfl⟩
 · rintro (rfl | ⟨j,hj,e1,rfl⟩)
   · exact ⟨_,(lh f hs).2 (.inl rfl),k0,rfl⟩
   · exact ⟨⟨(Af q (l.g j)).time,(Af q (l.g j)).aw,(Af q (l.g j)).ar⟩,(lh f hs).2 (.inr (.inr ⟨j,hj,by rw[e1];rfl⟩)),CK f hj,rfl⟩
theorem Fs {r:List Gate} (hr:∀g∈r,∃t,0≤t∧t≤100000∧g=bZ t):(cq q l r ((s:Nat):Int)=none↔¬vX q l s)∧∀w,cq q l r ((s:Nat):Int)=some w→
 w.length=(pe q l r ((s:Nat):Int)).length∧(∀g∈pe q l r ((s:Nat):Int),∃j,j<w.length∧(w.g j).time=g.time)∧∀j,j<w.length→∀x,((w.g j).aw≤x∧x≤(w.g j).ar)↔LZ q l s (w.g j).time x:=by
 obtain ⟨r0,r1,f0,f1⟩:=f.pG
 obtain ⟨gs,kg⟩:=PM f hs hr
 have h1:1≤(pe q l r ((s:Nat):Int)).length:=by rw[pM];omega
 obtain ⟨p1,p2,p3⟩:=qI h1
 have len:=p1.length_eq
 obtain ⟨c1,c2⟩:=Ff f0 f1 r0 r1 gs (n:=(pe q l r ((s:Nat):Int)).length) len.symm h1
 have ex:tO q.aI q.aH (KG (lH (pe q l r ((s:Nat):Int))))↔vX q l s:=
  ⟨fun h i hi k hk=>h i ((kg i).2 hi) k ((kg k).2 hk),fun h i hi k hk=>h i ((kg i).1 hi) k ((kg k).1 hk)⟩
 rw[A5]
 refine ⟨?_,fun w e=>?_⟩
 · rw[Option.map_eq_none_iff,c1,ex]
 · obtain ⟨W,e1,rfl⟩:=Option.map_eq_some_iff.1 e
   obtain ⟨d1,d2⟩:=c2 W e1
   refine ⟨d1,fun g hg=>?_,fun j hj x=>?_⟩
   · obtain ⟨j,hj,e2⟩:=List.mem_iff_getElem.1 (p1.symm.subset hg)
     refine ⟨j,by omega,?_⟩
     rw[(d2 j o!).1,kI hj,e2]
   · have nD:j<(pe q l r ((s:Nat):Int)).length:=by omega
     rw[(d2 j nD).2 x,(d2 j nD).1]
     exact ⟨fun h c hc=>h c ((kg c).2 hc),fun h c hc=>h c ((kg c).1 hc)⟩
end
theorem Ua {w:List Gate} {t:Int}:∀(k i:Nat),i+k=w.length→(∃j,i≤j∧j<w.length∧(w.g j).time=t)→∃j:Nat,eT w (fun y=>eU y t) k i=some ((j:Nat):Int)∧j<w.length∧(w.g j).time=t
 | 0,i,h,⟨j,a,b,_⟩=>by omega
 | k+1,i,h,⟨j,a,b,c⟩=>by
   rw[eT]
   show ∃j:Nat,(bif decide ((w.g i).time=t) then some ((i:Nat):Int) else eT w (fun y=>eU y t) k (i+1))=_∧_
   by_cases e:(w.g i).time=t
   · rw[decide_eq_true e];exact ⟨i,rfl,by omega,e⟩
   · rw[decide_eq_false e]
     refine Ua k (i+1) o! ⟨j,?_,b,c⟩
     rcases Nat.lt_or_eq_of_le a with q | q
     · omega
     · subst q;exact absurd c e
theorem Mw {w:List Gate} {t:Int} (h:∃j,j<w.length∧(w.g j).time=t):∃j:Nat,bz w (fun y=>eU y t)=((j:Nat):Int)∧j<w.length∧(w.g j).time=t:=by
 obtain ⟨j,a,b⟩:=h
 obtain ⟨i,e,c⟩:=Ua w.length 0 o! ⟨j,Nat.zero_le _,a,b⟩
 exact ⟨i,by rw[bz,e],c⟩
theorem HE {q:aD} {l:List aK} (f:RF q l) {t:Int} (t0:0≤t) (t1:t≤100000) {s:Nat} (hs:s<256) {w:List Gate} (e:cq q l [bZ t] ((s:Nat):Int)=some w):
 tU q l [bZ t] ((s:Nat):Int)=w.length∧0≤bz w (fun y=>eU y t)∧bz w (fun y=>eU y t)<(w.length:Int)∧w.length<1000∧vX q l s∧(∀x,((nA w t).ay≤x∧x≤(nA w t).aq)↔LZ q l s t x):=by
 have hr:∀g∈ [bZ t],∃t,0≤t∧t≤100000∧g=bZ t:=fun g hg=>by rw[List.mem_singleton] at hg;exact ⟨t,t0,t1,hg⟩
 obtain ⟨c1,c2⟩:=Fs f hs hr
 obtain ⟨d1,d2,d3⟩:=c2 w e
 obtain ⟨j,e1,e2,e3⟩:=Mw (w:=w) (t:=t) (d2 _ ((lh f hs).2 (.inr (.inl (List.mem_singleton.2 rfl)))))
 have hm:=f.r5
 refine ⟨by rw[adY,d1],by rw[e1];omega,by rw[e1];omega,by rw[d1,pM,List.length_singleton];omega,?_,fun x=>?_⟩
 · exact Classical.byContradiction fun h=>by rw[c1.2 h] at e;cases e
 · have:=d3 j e2 x
   rw[e3] at this
   rw[nA,e1];exact this
def Xn:Code:=(Try.f26.body).getD .skip
theorem agx:Try.f26.body=some Xn:=by kernel_rfl
theorem adZ {d:Nat} {h:aA} (bS:Tidy h) (q:aD) (n:Int) {lv rv:AV} (hq:aF.ok h q) (hl:AV.scalar lv=true) (hr:AV.scalar rv=true):
 ∃bq bl bm br hk,cz (d+2) (.fn 26) [.agg (aF.c q),lv,Zi n,rv] h= .ret (.func 44 [] [Pt bq,Pt bm,Pt br,Pt bl]) hk∧Tidy hk∧h.nx≤hk.nx∧Has h hk∧hk.get bq=some (.cells (aF.c q) 26 false)∧hk.get bl=some (.cells [lv] 27 false)∧hk.get bm=some (.cells [Zi n] 3 false)∧hk.get br=some (.cells [rv] 69 false)∧(h.nx≤bq∧bq<bl∧bl<bm∧bm<br∧br<hk.nx):=by
 obtain ⟨h1,cj,cg,iu,bf,cf⟩:=fY bS (aX.cells [(AV.str q.name),(Zi q.ai),(Zi q.af),(Zi q.aH),(Zi q.aI),(Zi q.bad),q.az] 26 false)
 have bA:Has h h1:=cf
 obtain ⟨h2,iw,eQ,te,cO,dg⟩:=fY cg (aX.cells [lv] 27 false)
 have dZ:Has h h2:=bA.trans dg
 obtain ⟨h3,tf,fA,LD,pT,dq⟩:=fY eQ (aX.cells [(Zi n)] 3 false)
 have fl:Has h h3:=dZ.trans dq
 obtain ⟨h4,HF,oh,Ps,zl,mR⟩:=fY fA (aX.cells [rv] 69 false)
 have nO:Has h h4:=fl.trans mR
 exact ⟨_,_,_,_,_,qp rfl (ba Try.func26 agx rfl (.inr rfl) (pk (d+1) _ _ h _ h4 (NN cj (fun i=>(Pt i))<|AA (.a (aX.cells [lv] 27 false) (Pt h1.nx) h2)<|HH iw<|HH (show ∃mk:Nat→AV,some (aX.cells (AV.cells lv) 27 false,fun i=>AV.ptr i 0)=some (aX.cells [lv] 27 false,mk)∧mk h1.nx=(Pt h1.nx) from ⟨_,(by rw[lY hl]),rfl⟩)<|NN tf (fun i=>(Pt i))<|AA (.a (aX.cells [rv] 69 false) (Pt h3.nx) h4)<|HH HF<|HH (show ∃mk:Nat→AV,some (aX.cells (AV.cells rv) 69 false,fun i=>AV.ptr i 0)=some (aX.cells [rv] 69 false,mk)∧mk h3.nx=(Pt h3.nx) from ⟨_,(by rw[lY hr]),rfl⟩)<|CN 3<|ZZ) k!) k!) (fun q=>by cases q.2),oh,by omega,nO,mR _ _ (dq _ _ (dg _ _ bf)),mR _ _ (dq _ _ cO),mR _ _ pT,zl,by omega,by omega,by omega,by omega,by omega⟩
def tV:Code:=(Try.f28.body).getD .skip
theorem J9:Try.f28.body=some tV:=by kernel_rfl
def D8:Code:=(cc tV).getD 0 .skip
def ey (c:List Gate) (l_:List aK):Nat→Nat→List Int→List Int
 | 0,_,fh=>fh
 | dQ+1,i0,fh=>ey c l_ dQ (i0+1) (fh++[(nA c (l_.g i0).time).ay])
theorem tW {d:Nat} {h:aA} (cV:AV) (bJ:AV) (l_:List aK) (c:List Gate) (bF:aY h cV c) (eZ:aY h bJ l_) (nv:∀i,i<l_.length→0≤bz c (fun y=>eU y (l_.g i).time)∧bz c (fun y=>eU y (l_.g i).time)<(c.length:Int)) (zm:l_.length≤1000) (bS:Tidy h):∀(k_ i_:Nat) (fh:List Int) (z0:AV) (_:i_+k_=l_.length) (x:Nat→AV) (hh:aA) (aQ:Tidy hh) (aW:Has h hh) (gQ:h.nx≤hh.nx) (Ve:dk 3 h hh z0 (zs .i64 fh)) (lz0:fh.length≤i_),kX (cz (d+3)) D8 ⟨(cV::rx x 1 4 (z0::(x 6)::(x 7)::bJ::(Zn l_.length)::(Zn i_)::rx x 11 13 [])),hh,[],.no⟩ (.exit 0) h 3 (fun r z y=>(cV::rx y 1 4 (z::(y 6)::(y 7)::bJ::(Zn l_.length)::rx y 10 14 []))) (fun r=>zs .i64 r) l_.length (ey c l_ k_ i_ fh)
 | 0,i0,fh,z0,kY,x,hh,aQ,aW,gQ,Ve,lz0=>by
   have eR:=bF.small
   have vP:=eZ.small
   have q1:(decide (((i0:Nat):Int)<((l_.length:Nat):Int)))=false:=d!
   exact kX.out fh z0 rfl (pk (d+3) _ _ hh _ hh (VV (bK 3 false false .i64 ((i0:Nat):Int) ((l_.length:Nat):Int))<|BB q1<|ZZ) k!) ⟨aQ,aW,by omega⟩ Ve (by show (zs _ _).length≤_;rw[oW];omega) k!
 | dQ+1,i0,fh,z0,kY,x,hh,aQ,aW,gQ,Ve,lz0=>by
   have eR:=bF.small
   have vP:=eZ.small
   have q1:(decide (((i0:Nat):Int)<((l_.length:Nat):Int)))=true:=d!
   obtain ⟨p3,q4,oY⟩:=(eZ.has aW).elem (i:=i0) o!
   have A1:cK env (some (.slice 43)) (some bJ) (some (Zn i0))=some (AV.ptr p3 q4):=oY
   have DV:bk env hh 43 (AV.ptr p3 q4)=some (AV.agg [(Zi (l_.g i0).aL),(Zi (l_.g i0).time),(Zi (l_.g i0).value)]):=(eZ.has aW).load o! oY
   obtain ⟨h6,tu,qx,LP,vU,gC⟩:=fY aQ (aX.cells [(Zi 0),(Zi 0),(Zi 0)] 43 false)
   have pt:Has hh h6:=gC
   obtain ⟨h7,zq,mM,Py,pW,iT⟩:=rA (t:=43) (n:=3) (i:=hh.nx) (L:=[(Zi (l_.g i0).aL),(Zi (l_.g i0).time),(Zi (l_.g i0).value)]) qx vU k! rfl rfl (by simp only[AV.cells,List.all_cons,List.all_nil,Bool.and_true,Bool.and_self,eL,dw,eM,eN,cH,gZ,g_,hB,hD,hI,eO])
   have lL:Has hh h7:=Has.cS pt iT aQ o!
   have k8:=abe (d:=d) c (l_.g i0).time ((bF.has aW).has lL) (by first | omega | assumption | exact (nv _ o!).1 | exact (nv _ o!).2) (by first | omega | assumption | exact (nv _ o!).1 | exact (nv _ o!).2) mM
   obtain ⟨h9,aa3,nM,SN,Cq,zx⟩:=fY mM (aX.cells [(Zi (nA c (l_.g i0).time).ay)] 3 false)
   have jM:Has hh h9:=lL.trans zx
   obtain ⟨z11,mA,Mq,fZ,Cg,TR,aa4⟩:=dk.acO (k:= .i64) (h0:=h) (tys:= #[30,30]) (v:=((nA c (l_.g i0).time).ay)) (L:=fh) nM bS (aW.trans jM) o! (Ve.has jM) Cq (by first | omega | (simp<;>omega)) rfl rfl k! k! k! (bytes:=8) k! (z0:=Zi 0) k! rfl (by decide)
   have SO:=fu 3 false true i0 1 o!
   exact kX.round (by simp only[ey,ak,aj]) (pk (d+3) _ _ hh _ mA (VV (bK 3 false false .i64 ((i0:Nat):Int) ((l_.length:Nat):Int))<|BV q1 A1<|MM DV<|NN tu (fun i=>(Pt i))<|SS zq<|CN 3<|MM (aO 3 1 (Zi (l_.g i0).time) pW k!)<|EE k8<|CC<|NN aa3 (fun i=>(AV.slice i 0 1 1 false))<|PP (show bX env h9 #[30,30] z0 (AV.slice h7.nx 0 1 1 false)=some (z11,mA) from Mq)<|CC<|VV SO<|CC<|ZZ) k!) _ k! (fun x=>tW cV bJ l_ c bF eZ nv zm bS dQ (i0+1) (fh++[(nA c (l_.g i0).time).ay]) z11 o! x mA fZ TR o! aa4 (by first | omega | (simp<;>omega)))
def dC (c:List Gate) (l_:List aK):List Int:=(ey c l_ l_.length 0 ([]))
theorem J_ {d:Nat} {h:aA} {cV bJ:AV} (c:List Gate) (l_:List aK) (Tn:aY h cV c) (dR:aY h bJ l_) (pV:∀i,i<l_.length→0≤bz c (fun y=>eU y (l_.g i).time)∧bz c (fun y=>eU y (l_.g i).time)<(c.length:Int)) (S9:l_.length≤1000) (bS:Tidy h):∃z hk,cz (d+4) (.fn 28) [cV,bJ] h= .ret z hk∧Grow h hk∧gO hk .i64 3 z (dC c l_)∧dk 3 h hk z (zs .i64 (dC c l_)):=by
 have adV:=Tn.small
 have mL:=dR.small
 have ja:dy (some (.slice 43)) (some bJ)=some (Zn l_.length):=dR.len
 obtain ⟨NK,Qq,h3,fG,gP,oz5,Xh⟩:=tW (d:=d) (h:=h) cV bJ l_ c Tn dR pV o! bS l_.length 0 ([]) AV.aP o! (fun k_=>((cV::bJ::AV.undef::AV.undef::AV.aP::AV.aP::AV.undef::AV.undef::bJ::(Zn l_.length)::(Zi 0)::iL 13):List AV).getD k_ AV.undef) h bS (Has.refl _) (Nat.le_refl _) (.inl ⟨rfl,rfl⟩) (Nat.zero_le _)
 rw[oW] at Xh
 have fA:=gP.y
 have qw:h.nx≤h3.nx:=gP.n
 have fl:Has h h3:=gP.a
 have e:dC c l_=(ey c l_ l_.length 0 ([])):=by simp only[dC,ak,aj]
 rw[e]
 have oz:=dk.le (h0:=h) oz5 o!
 exact ⟨NK,jj rfl (ba Try.func28 J9 rfl (.inr rfl) (pk (d+3) _ _ h _ h3 (CN 3<|VV ja<|CC<|LL fG<|CN 2<|ZZ) k!) k!) bS ⟨fA,fl,by omega⟩ (P:=fun hh=>gO hh .i64 3 NK (ey c l_ l_.length 0 ([]))∧dk 3 h hh NK (zs .i64 (ey c l_ l_.length 0 ([])))) ⟨oz.zs o! k! k!,oz⟩ fun v=>⟨oz.Jq v k! k!,oz.Yd v⟩⟩
def tX:Code:=(Try.f27.body).getD .skip
theorem J':Try.f27.body=some tX:=by kernel_rfl
def D9:Code:=(cc tX).getD 0 .skip
def eV (s:Int):Nat→Nat→List Int→List Int
 | 0,_,nQ=>nQ
 | dQ+1,i0,nQ=>(bif (tQ s ((i0:Nat):Int)) then eV s dQ (i0+1) (nQ++[((i0:Nat):Int)]) else eV s dQ (i0+1) nQ)
theorem pf {d:Nat} {h:aA} (s:Int) (bS:Tidy h):∀(k_ i_:Nat) (nQ:List Int) (z0:AV) (_:i_+k_=(Int.toNat 8)) (x:Nat→AV) (hh:aA) (aQ:Tidy hh) (aW:Has h hh) (gQ:h.nx≤hh.nx) (Ve:dk 3 h hh z0 (zs .i64 nQ)) (lz0:nQ.length≤i_),kX (cz (d+1)) D9 ⟨((AV.int .u64 s)::(x 1)::(x 2)::z0::(x 4)::(Zn i_)::rx x 6 11 []),hh,[],.no⟩ (.exit 0) h 3 (fun r z y=>((AV.int .u64 s)::(y 1)::(y 2)::z::rx y 4 13 [])) (fun r=>zs .i64 r) (Int.toNat 8) (eV s k_ i_ nQ)
 | 0,i0,nQ,z0,kY,x,hh,aQ,aW,gQ,Ve,lz0=>by
   have q1:(decide (((i0:Nat):Int)<8))=false:=d!
   exact kX.out nQ z0 rfl (pk (d+1) _ _ hh _ hh (VV (bK 3 false true .i64 ((i0:Nat):Int) 8)<|BB q1<|ZZ) k!) ⟨aQ,aW,by omega⟩ Ve (by show (zs _ _).length≤_;rw[oW];omega) k!
 | dQ+1,i0,nQ,z0,kY,x,hh,aQ,aW,gQ,Ve,lz0=>by
   have q1:(decide (((i0:Nat):Int)<8))=true:=d!
   have k2:=Oc (d:=d) s ((i0:Nat):Int) (by first | omega | assumption | (simp only[List.length_set,List.length_replicate,List.length_append,List.length_cons,List.length_nil,List.nil_append]<;>omega) | (rw[List.length_take];omega)) aQ
   rcases bZq (tQ s ((i0:Nat):Int)) with f1 | f1
   · obtain ⟨h4,HF,oh,Ps,zl,mR⟩:=fY aQ (aX.cells [(Zn i0)] 3 false)
     have nO:Has hh h4:=mR
     obtain ⟨z6,h5,ad0,sh,Ju,agy,oz7⟩:=dk.acO (k:= .i64) (h0:=h) (tys:= #[30,30]) (v:=((i0:Nat):Int)) (L:=nQ) oh bS (aW.trans nO) o! (Ve.has nO) zl (by first | omega | (simp<;>omega)) rfl rfl k! k! k! (bytes:=8) k! (z0:=Zi 0) k! rfl (by decide)
     have u8:=fu 3 false true i0 1 o!
     exact kX.round (by simp only[eV,f1,ak,aj]) (pk (d+1) _ _ hh _ h5 (VV (bK 3 false true .i64 ((i0:Nat):Int) 8)<|BB q1<|CN 4<|EE k2<|BB f1<|CN 2<|NN HF (fun i=>(AV.slice i 0 1 1 false))<|PP (show bX env h4 #[30,30] z0 (AV.slice hh.nx 0 1 1 false)=some (z6,h5) from ad0)<|CC<|VV u8<|CC<|ZZ) k!) _ k! (fun x=>pf s bS dQ (i0+1) (nQ++[((i0:Nat):Int)]) z6 o! x h5 sh agy o! oz7 (by first | omega | (simp<;>omega)))
   · have u4:=fu 3 false true i0 1 o!
     exact kX.round (by simp only[eV,f1,ak,aj]) (pk (d+1) _ _ hh _ hh (VV (bK 3 false true .i64 ((i0:Nat):Int) 8)<|BB q1<|CN 4<|EE k2<|BV f1 u4<|CC<|ZZ) k!) _ k! (fun x=>pf s bS dQ (i0+1) nQ z0 o! x hh aQ aW o! Ve (by first | omega | (simp<;>omega)))
def dD (s:Int):List Int:=(eV s (Int.toNat 8) 0 ([]))
theorem Ka {d:Nat} {h:aA} (s:Int) (bS:Tidy h):∃z hk,cz (d+2) (.fn 27) [(AV.int .u64 s)] h= .ret z hk∧Grow h hk∧gO hk .i64 3 z (dD s)∧dk 3 h hk z (zs .i64 (dD s)):=by
 obtain ⟨zo3,yl1,h2,vV,vW,oz4,ln5⟩:=pf (d:=d) (h:=h) s bS (Int.toNat 8) 0 ([]) AV.aP o! (fun k_=>(((AV.int .u64 s)::AV.undef::AV.aP::AV.aP::AV.undef::(Zi 0)::iL 11):List AV).getD k_ AV.undef) h bS (Has.refl _) (Nat.le_refl _) (.inl ⟨rfl,rfl⟩) (Nat.zero_le _)
 rw[oW] at ln5
 have eQ:=vW.y
 have zn:h.nx≤h2.nx:=vW.n
 have dZ:Has h h2:=vW.a
 have e:dD s=(eV s (Int.toNat 8) 0 ([])):=by simp only[dD,ak,aj]
 rw[e]
 have oz:=dk.le (h0:=h) oz4 o!
 exact ⟨zo3,jj rfl (ba Try.func27 J' rfl (.inr rfl) (pk (d+1) _ _ h _ h2 (CN 3<|LL vV<|CN 2<|ZZ) k!) k!) bS ⟨eQ,dZ,by omega⟩ (P:=fun hh=>gO hh .i64 3 zo3 (eV s (Int.toNat 8) 0 ([]))∧dk 3 h hh zo3 (zs .i64 (eV s (Int.toNat 8) 0 ([])))) ⟨oz.zs o! k! k!,oz⟩ fun v=>⟨oz.Jq v k! k!,oz.Yd v⟩⟩
section
variable {α:Type} [aF α]
theorem bH.ix {h0 h:aA} {z:AV} {l:List α} (y:Tidy h) (o:bH h0 h z l) {i:Nat} (hi:i<l.length):
 ∃p,cK env (some (.slice (aF.e α))) (some z) (some (.int .i64 ((i:Nat):Int)))=some (.ptr p (i*aF.n α))∧p<h.nx∧h0.nx≤p:=by
 rcases o with ⟨_,rfl⟩ | ⟨hn,p,op,rfl,hp,hg⟩
 · simp at hi
 · have ix:=cA (E:=env) (i:=p) (o:=0) (c:=l.length) (b:=op) (aF.size (α:=α)) hi
   rw[Nat.zero_add] at ix
   exact ⟨p,ix,y _ _ hg,hp⟩
end
def yp (L:List Span):List Span:=(lC (L.map fun s=>(s.ay,s.aq))).map fun x=>(⟨x.1,x.2⟩:Span)
theorem Mx (L:List Span):(yp L).Perm L:=by
 have h:=(B6 (L.map fun s=>(s.ay,s.aq))).1.map fun x=>(⟨x.1,x.2⟩:Span)
 rw[List.map_map] at h
 have e:((fun x:Int×Int=>(⟨x.1,x.2⟩:Span))∘fun s:Span=>(s.ay,s.aq))=id:=by funext s;rfl
 rw[e,List.map_id] at h
 exact h
theorem PN (L:List Span):List.Pairwise (fun s r:Span=>s.ay≤r.ay) (yp L):=by
 obtain ⟨_,h2,h3⟩:=B6 (L.map fun s=>(s.ay,s.aq))
 rw[yp,List.pairwise_map,List.pairwise_iff_getElem]
 intro i j hi hj hij
 have:=h3 i j hij (by rw[←h2];exact hj)
 rw[getElem!_pos _ i hi,getElem!_pos _ j hj] at this
 exact this
def vm (S:List Span):Nat→Nat→List Span→List Span
 | 0,_,L=>L
 | k+1,i,L=>bif (decide (0≤(((L.length:Nat):Int) - 1))) then bif (decide ((S.g i).ay≤(IntKind.i64.wrap (((L.g (((L.length:Nat):Int) - 1).toNat).aq)+1)))) then vm S k (i+1) (L.set (((L.length:Nat):Int) - 1).toNat ({(L.g (((L.length:Nat):Int) - 1).toNat) with aq:=(imax (L.g (((L.length:Nat):Int) - 1).toNat).aq (S.g i).aq)}:Span)) else vm S k (i+1) (L++[S.g i]) else vm S k (i+1) (L++[S.g i])
def yq (L:List Span):List Span:=vm (yp L) (yp L).length 0 []
theorem abg (L:List Span) (c:Span):(L++[c]).g L.length=c:=by
 rw[List.g,List.getD_eq_getElem?_getD,List.getElem?_append_right (Nat.le_refl _),Nat.sub_self];rfl
theorem Ub (L:List Span) (c x:Span):(L++[c]).set L.length x=L++[x]:=by
 rw[List.set_append_right _ _ (Nat.le_refl _),Nat.sub_self];rfl
theorem Uc (S:List Span):∀(k i:Nat) (L:List Span) (c:Span),i+k=S.length→(∀s∈S.drop i,Bd s)→Bd c→vm S k i (L++[c])=L++Qw c (S.drop i)
 | 0,i,L,c,h,_,_=>by rw[vm,List.drop_eq_nil_of_le o!,Qw]
 | k+1,i,L,c,h,hd,hc=>by
   have e:=LV (l:=S) (i:=i) o!
   have hs:=hd (S.g i) (by rw[e];exact List.mem_cons_self ..)
   have Kq:∀s∈S.drop (i+1),Bd s:=fun s q=>hd s (by rw[e];exact List.mem_cons_of_mem _ q)
   obtain ⟨c1,c2,c3,c4⟩:=hc
   obtain ⟨s1,s2,s3,s4⟩:=hs
   have n1:(((L++[c]).length:Nat):Int) - 1=(L.length:Int):=by rw[List.length_append,List.length_singleton];omega
   rw[vm,n1,decide_eq_true (show (0:Int)≤(L.length:Int) by omega),ak,Int.toNat_natCast,abg,Ub,e,Qw,wrap_i64 (n:=c.aq+1) o! o!]
   by_cases q:(S.g i).ay≤c.aq+1
   · rw[decide_eq_true q,ak,if_pos q,rI]
     exact Uc S k (i+1) L ⟨c.ay,max c.aq (S.g i).aq⟩ o! Kq ⟨c1,c2,by simp only;omega,by simp only;omega⟩
   · rw[decide_eq_false q,aj,if_neg q,Uc S k (i+1) (L++[c]) (S.g i) o! Kq ⟨s1,s2,s3,s4⟩,List.append_assoc];rfl
theorem Kb {A:List Span} (hd:∀s∈A,Bd s) (hn:∀s∈A,s.ay≤s.aq):Canon (yq A)∧∀x,uT (yq A) x↔uT A x:=by
 have p:=Mx A
 have asc:=PN A
 have inp:∀x,uT (yp A) x↔uT A x:=fun x=>⟨fun ⟨s,a,b⟩=>⟨s,p.subset a,b⟩,fun ⟨s,a,b⟩=>⟨s,p.symm.subset a,b⟩⟩
 have VG:∀s∈yp A,Bd s:=fun s q=>hd s (p.subset q)
 have K6:∀s∈yp A,s.ay≤s.aq:=fun s q=>hn s (p.subset q)
 unfold yq
 generalize yp A=S at asc inp VG K6
 cases S with
 | nil=>exact ⟨.nil,inp⟩
 | cons c R=>
   obtain ⟨a1,a2⟩:=List.pairwise_cons.1 asc
   have e:vm (c::R) (c::R).length 0 []=Qw c R:=by
    show vm (c::R) (R.length+1) 0 []=_
    rw[vm]
    show (bif decide ((0:Int)≤(([]:List Span).length:Int) - 1) then _ else _)=_
    rw[decide_eq_false (by simp),aj]
    exact Uc (c::R) R.length 1 [] c (by simp only[List.length_cons];omega) (fun s q=>VG s (List.mem_cons_of_mem _ q)) (VG c (List.mem_cons_self ..))
   rw[e]
   obtain ⟨j1,j2,_⟩:=CE (l:=R) (c:=c) (K6 c (List.mem_cons_self ..)) (fun s q=>K6 s (List.mem_cons_of_mem _ q)) a1 a2
   refine ⟨j1,fun x=>?_⟩
   rw[j2,←inp,eS]


theorem Am {α:Type} [aF α] (inj:∀a b:α,aF.c a=aF.c b→a=b):∀l l':List α,l.length=l'.length→l.flatMap aF.c=l'.flatMap aF.c→l=l'
 | [],[],_,_=>rfl
 | a::l,b::l',hl,h=>by
   rw[List.flatMap_cons,List.flatMap_cons] at h
   obtain ⟨h1,h2⟩:=List.append_inj h (by rw[aF.len,aF.len])
   rw[inj a b h1,Am inj l l' (by simpa using hl) h2]
theorem bH.same {α:Type} [aF α] (inj:∀a b:α,aF.c a=aF.c b→a=b) {h0 h h':aA} {z:AV} {l l':List α} (o:bH h0 h z l) (o':bH h0 h' z l') (A:Has h h'):l'=l:=by
 rcases o with ⟨e,rfl⟩ | ⟨hn,p,op,e,hp,hg⟩<;>rcases o' with ⟨e',rfl⟩ | ⟨Y2,p',op',e',Zg,hg'⟩
 · rfl
 · exfalso
   have:0<l'.length:=List.length_pos_iff.2 Y2
   rcases e with rfl | ⟨q,rfl,_⟩
   · cases e'
   · have:=(AV.slice.inj e').2.2.1;omega
 · exfalso
   have:0<l.length:=List.length_pos_iff.2 hn
   rcases e' with rfl | ⟨q,rfl,_⟩
   · cases e
   · have:=(AV.slice.inj e).2.2.1;omega
 · rw[e] at e'
   have i:=AV.slice.inj e'
   have q:=A _ _ hg
   rw[i.1,hg'] at q
   exact Am inj _ _ i.2.2.1.symm (aX.cells.inj (Option.some.inj q)).1
theorem Fu (n:Nat):∃e:aA,e.nx=n∧∀k,e.get k=none:=⟨⟨HT.nil,n,fun _=>none⟩,rfl,fun k=>Go.Ab.Np k n⟩

theorem bH.move {α:Type} [aF α] {g h h':aA} {z:AV} {l:List α} (o:bH g h z l) (k:∀p w,g.nx≤p→h.get p=some w→h'.get p=some w):bH g h' z l:=by
 rcases o with ⟨rfl | ⟨p,rfl,hp,hg⟩,rfl⟩ | ⟨hn,p,op,rfl,hp,hg⟩
 · exact .inl ⟨.inl rfl,rfl⟩
 · exact .inl ⟨.inr ⟨p,rfl,hp,k _ _ hp hg⟩,rfl⟩
 · exact .inr ⟨hn,p,op,rfl,hp,k _ _ hp hg⟩
def rP (q:aD) (l:List aK) (t:Int):List Span:=yq ((yn q l [bZ t] q.bad).map fun y=>nA y.2 t)
end
end Go.Proofs.aG
