import Derived.Test.YtfllahfbmaafcaaW0
import Derived.Test.YtfllahfbmaafcaaW1
set_option linter.unusedVariables false
set_option linter.unusedSimpArgs false
namespace Go.Proofs.aG
open Go.Proofs Ab
noncomputable section
set_option maxRecDepth 100000
set_option maxHeartbeats 4000000
def nt:Code:=(Try.f29.body).getD .skip
theorem lZ:Try.f29.body=some nt:=by kernel_rfl
def uP:Code:=(cc nt).getD 0 .skip
def bP (q:aD) (l_:List aK):Nat→Nat→Int→Int
 | 0,_,fh=>fh
 | dQ+1,i0,fh=>(bif (decide (fh=0)) then bP q l_ dQ (i0+1) (b_ q (l_.g i0)) else fh)
theorem hX {d:Nat} {h:aA} (bJ:AV) (l_:List aK) (q:aD) (bL:Nat) (bF:aY h bJ l_) (eZ:q.name.length<2^60) (iy:aY h q.az q.aC) (kG:aF.ok h q):∀(k_ i_:Nat) (fh:Int) (_:i_+k_=l_.length) (x:Nat→AV) (hh:aA) (aQ:Tidy hh) (aW:Has h hh) (bG:hh.get bL=some (aX.cells [(AV.str q.name),(Zi q.ai),(Zi q.af),(Zi q.aH),(Zi q.aI),(Zi q.bad),q.az] 26 false)),kW (cz (d+3)) uP ⟨((x 0)::bJ::(Pt bL)::(x 3)::(x 4)::(Zi fh)::(Zn i_)::rx x 7 26 []),hh,[],.no⟩ (.exit 0) hh (fun r y=>((y 0)::bJ::(Pt bL)::(y 3)::(y 4)::(Zi r)::rx y 6 27 [])) (fun r=>True) (bP q l_ k_ i_ fh)
 | 0,i0,fh,kY,x,hh,aQ,aW,bG=>by
   have eR:=bF.small
   have mK:=iy.small
   have pS:=aQ _ _ bG
   have ja:dy (some (.slice 43)) (some bJ)=some (Zn l_.length):=(bF.has aW).len
   have q2:(decide (((i0:Nat):Int)<((l_.length:Nat):Int)))=false:=d!
   exact kW.out fh rfl (pk (d+3) _ _ hh _ hh (CN 2<|VV ja<|VV (bK 3 false false .i64 ((i0:Nat):Int) ((l_.length:Nat):Int))<|CC<|BB q2<|BV q2 (uL false q2)<|FF<|ZZ) k!) (Grow.refl aQ) trivial k!
 | dQ+1,i0,fh,kY,x,hh,aQ,aW,bG=>by
   have eR:=bF.small
   have mK:=iy.small
   have pS:=aQ _ _ bG
   have ja:dy (some (.slice 43)) (some bJ)=some (Zn l_.length):=(bF.has aW).len
   have q2:(decide (((i0:Nat):Int)<((l_.length:Nat):Int)))=true:=d!
   rcases bZq (decide (fh=0)) with f1 | f1
   · have ic:=of_decide_eq_true f1
     obtain ⟨p5,q6,SF⟩:=(bF.has aW).elem (i:=i0) o!
     have Qo:cK env (some (.slice 43)) (some bJ) (some (Zn i0))=some (AV.ptr p5 q6):=SF
     have ld7:bk env hh 43 (AV.ptr p5 q6)=some (AV.agg [(Zi (l_.g i0).aL),(Zi (l_.g i0).time),(Zi (l_.g i0).value)]):=(bF.has aW).load o! SF
     have k8:=zk (d:=d+1) q (l_.g i0) (aF.mono aW kG) trivial aQ
     have c9:AV.same 20 (AV.agg [(AV.str q.name),(Zi q.ai),(Zi q.af),(Zi q.aH),(Zi q.aI),(Zi q.bad),q.az]) (AV.agg [(AV.str q.name),(Zi q.ai),(Zi q.af),(Zi q.aH),(Zi q.aI),(Zi q.bad),q.az])=true:=dM 18 (iC (fun n=>jS n _) (iC (fun n=>aJ n _ _) (iC (fun n=>aJ n _ _) (iC (fun n=>aJ n _ _) (iC (fun n=>aJ n _ _) (iC (fun n=>aJ n _ _) (iC (iy.has aW).same DC)))))))
     have zj:AV.same 20 (AV.agg [(Zi (l_.g i0).aL),(Zi (l_.g i0).time),(Zi (l_.g i0).value)]) (AV.agg [(Zi (l_.g i0).aL),(Zi (l_.g i0).time),(Zi (l_.g i0).value)])=true:=dM 18 (iC (fun n=>aJ n _ _) (iC (fun n=>aJ n _ _) (iC (fun n=>aJ n _ _) DC)))
     have LA:=fu 3 false true i0 1 o!
     exact kW.round (by simp only[bP,f1,ak,aj]) (pk (d+3) _ _ hh _ hh (CN 2<|VV ja<|VV (bK 3 false false .i64 ((i0:Nat):Int) ((l_.length:Nat):Int))<|CC<|BC q2<|BV q2 (lV 31 false true .i64 fh 0)<|VV (ov (decide (fh=0)) false q2)<|BM f1 (aO 26 0 (AV.agg [(AV.str q.name),(Zi q.ai),(Zi q.af),(Zi q.aH),(Zi q.aI),(Zi q.bad),q.az]) bG k!)<|CN 2<|VV Qo<|MM ld7<|EE k8<|CC<|HH (aO 26 0 (AV.agg [(AV.str q.name),(Zi q.ai),(Zi q.af),(Zi q.aH),(Zi q.aI),(Zi q.bad),q.az]) bG k!)<|HH c9<|HH ld7<|HH zj<|CC<|VV LA<|CC<|ZZ) k!) (Grow.refl aQ) _ k! (fun x=>hX bJ l_ q bL bF eZ iy kG dQ (i0+1) (b_ q (l_.g i0)) o! x hh aQ aW bG)
   · have ic:=of_decide_eq_false f1
     exact kW.out fh (by simp only[bP,f1,ak,aj]) (pk (d+3) _ _ hh _ hh (CN 2<|VV ja<|VV (bK 3 false false .i64 ((i0:Nat):Int) ((l_.length:Nat):Int))<|CC<|BC q2<|BV q2 (lV 31 false true .i64 fh 0)<|VV (ov (decide (fh=0)) false q2)<|BB f1<|ZZ) k!) (Grow.refl aQ) trivial k!
def bx (q:aD) (l_:List aK):Int:=(bif (decide ((aM q)=0)) then (bif (decide (64<((l_.length:Nat):Int))) then (bP q l_ l_.length 0 3) else (bP q l_ l_.length 0 (aM q))) else (bP q l_ l_.length 0 (aM q)))
theorem xJ {d:Nat} {h:aA} {bJ:AV} (q:aD) (l_:List aK) (fB:aF.ok h q) (dR:aY h bJ l_) (bS:Tidy h):cz (d+4) (.fn 29) [(AV.agg [(AV.str q.name),(Zi q.ai),(Zi q.af),(Zi q.aH),(Zi q.aI),(Zi q.bad),q.az]),bJ] h= .ret (Zi (bx q l_)) h:=by
 have mL:=dR.small
 have hU:=fB.2.small
 obtain ⟨h1,cj,cg,iu,bf,cf⟩:=fY bS (aX.cells [(AV.str q.name),(Zi q.ai),(Zi q.af),(Zi q.aH),(Zi q.aI),(Zi q.bad),q.az] 26 false)
 have bA:Has h h1:=cf
 have k2:=xI (d:=d) q (aF.mono bA fB) cg
 rcases bZq (decide ((aM q)=0)) with f0 | f0
 · have jW:=of_decide_eq_true f0
   have SE:dy (some (.slice 43)) (some bJ)=some (Zn l_.length):=dR.len
   rcases bZq (decide (64<((l_.length:Nat):Int))) with f1 | f1
   · have ic:=of_decide_eq_true f1
     obtain ⟨yl6,h7,Cj,LB,NA⟩:=hX (d:=d) (h:=h) bJ l_ q h.nx dR fB.1 fB.2 fB l_.length 0 3 o! (fun k_=>(((AV.agg [(AV.str q.name),(Zi q.ai),(Zi q.af),(Zi q.aH),(Zi q.aI),(Zi q.bad),q.az])::bJ::(Pt h.nx)::AV.undef::(Zi 0)::(Zi 3)::(Zi 0)::(AV.agg [(AV.str q.name),(Zi q.ai),(Zi q.af),(Zi q.aH),(Zi q.aI),(Zi q.bad),q.az])::(Zi (aM q))::(Zi (aM q))::(AV.bool (decide ((aM q)=0)))::(AV.bool (decide ((aM q)=0)))::bJ::(Zn l_.length)::(AV.bool (decide (64<((l_.length:Nat):Int))))::(AV.bool (decide (64<((l_.length:Nat):Int))))::iL 17):List AV).getD k_ AV.undef) h1 cg bA bf
     have mM:=LB.y
     have Z7:h1.nx≤h7.nx:=LB.n
     have lL:Has h h7:=bA.trans LB.a
     have e:bx q l_=(bP q l_ l_.length 0 3):=by simp only[bx,f0,f1,ak,aj]
     rw[e]
     exact aE rfl (ba Try.func29 lZ rfl (.inr rfl) (pk (d+3) _ _ h _ h7 (NN cj (fun i=>(Pt i))<|CC<|MM (aO 26 0 (AV.agg [(AV.str q.name),(Zi q.ai),(Zi q.af),(Zi q.aH),(Zi q.aI),(Zi q.bad),q.az]) bf k!)<|EE k2<|CN 2<|VV (lV 31 false true .i64 (aM q) 0)<|CC<|BC f0<|BV f0 SE<|BV f0 (cI 3 false true .i64 ((l_.length:Nat):Int) 64)<|VV (ov (decide (64<((l_.length:Nat):Int))) false f0)<|BB f1<|CN 2<|LL Cj<|CN 2<|ZZ) k!) k!) lL rfl
   · have ic:=of_decide_eq_false f1
     obtain ⟨yl6,h7,Cj,LB,NA⟩:=hX (d:=d) (h:=h) bJ l_ q h.nx dR fB.1 fB.2 fB l_.length 0 (aM q) o! (fun k_=>(((AV.agg [(AV.str q.name),(Zi q.ai),(Zi q.af),(Zi q.aH),(Zi q.aI),(Zi q.bad),q.az])::bJ::(Pt h.nx)::AV.undef::(Zi 0)::(Zi (aM q))::(Zi 0)::(AV.agg [(AV.str q.name),(Zi q.ai),(Zi q.af),(Zi q.aH),(Zi q.aI),(Zi q.bad),q.az])::(Zi (aM q))::(Zi (aM q))::(AV.bool (decide ((aM q)=0)))::(AV.bool (decide ((aM q)=0)))::bJ::(Zn l_.length)::(AV.bool (decide (64<((l_.length:Nat):Int))))::(AV.bool (decide (64<((l_.length:Nat):Int))))::iL 17):List AV).getD k_ AV.undef) h1 cg bA bf
     have mM:=LB.y
     have Z7:h1.nx≤h7.nx:=LB.n
     have lL:Has h h7:=bA.trans LB.a
     have e:bx q l_=(bP q l_ l_.length 0 (aM q)):=by simp only[bx,f0,f1,ak,aj]
     rw[e]
     exact aE rfl (ba Try.func29 lZ rfl (.inr rfl) (pk (d+3) _ _ h _ h7 (NN cj (fun i=>(Pt i))<|CC<|MM (aO 26 0 (AV.agg [(AV.str q.name),(Zi q.ai),(Zi q.af),(Zi q.aH),(Zi q.aI),(Zi q.bad),q.az]) bf k!)<|EE k2<|CN 2<|VV (lV 31 false true .i64 (aM q) 0)<|CC<|BC f0<|BV f0 SE<|BV f0 (cI 3 false true .i64 ((l_.length:Nat):Int) 64)<|VV (ov (decide (64<((l_.length:Nat):Int))) false f0)<|BC f1<|LL Cj<|CN 2<|ZZ) k!) k!) lL rfl
 · have jW:=of_decide_eq_false f0
   obtain ⟨Z8,h5,lu,mN,aeN⟩:=hX (d:=d) (h:=h) bJ l_ q h.nx dR fB.1 fB.2 fB l_.length 0 (aM q) o! (fun k_=>(((AV.agg [(AV.str q.name),(Zi q.ai),(Zi q.af),(Zi q.aH),(Zi q.aI),(Zi q.bad),q.az])::bJ::(Pt h.nx)::AV.undef::(Zi 0)::(Zi (aM q))::(Zi 0)::(AV.agg [(AV.str q.name),(Zi q.ai),(Zi q.af),(Zi q.aH),(Zi q.aI),(Zi q.bad),q.az])::(Zi (aM q))::(Zi (aM q))::(AV.bool (decide ((aM q)=0)))::(AV.bool (decide ((aM q)=0)))::AV.undef::AV.undef::AV.undef::(AV.bool false)::iL 17):List AV).getD k_ AV.undef) h1 cg bA bf
   have sh:=mN.y
   have Ju:h1.nx≤h5.nx:=mN.n
   have nN:Has h h5:=bA.trans mN.a
   have e:bx q l_=(bP q l_ l_.length 0 (aM q)):=by simp only[bx,f0,ak,aj]
   rw[e]
   exact aE rfl (ba Try.func29 lZ rfl (.inr rfl) (pk (d+3) _ _ h _ h5 (NN cj (fun i=>(Pt i))<|CC<|MM (aO 26 0 (AV.agg [(AV.str q.name),(Zi q.ai),(Zi q.af),(Zi q.aH),(Zi q.aI),(Zi q.bad),q.az]) bf k!)<|EE k2<|CN 2<|VV (lV 31 false true .i64 (aM q) 0)<|CC<|BB f0<|BB f0<|BV f0 (uL false f0)<|FF<|CC<|LL lu<|CN 2<|ZZ) k!) k!) nN rfl
theorem ly {c:Bool} {a b:Int} (ha:a≠0) (h:(bif c then a else b)=0):c=false∧b=0:=by
 cases c with
 | true=>exact absurd h ha
 | false=>exact ⟨rfl,h⟩
theorem Ck (q:aD) (l:List aK):∀(k i:Nat) (v:Int),v≠0→bP q l k i v=v
 | 0,_,_,_=>rfl
 | k+1,i,v,h=>by rw[bP,decide_eq_false h];rfl
theorem vR (q:aD) (l:List aK):∀(k i:Nat) (v:Int),bP q l k i v=0→v=0∧∀j,i≤j→j<i+k→b_ q (l.g j)=0
 | 0,i,v,h=>⟨h,fun j a b=>by omega⟩
 | k+1,i,v,h=>by
   rw[bP] at h
   by_cases e:v=0
   · rw[decide_eq_true e,ak] at h
     obtain ⟨h1,h2⟩:=vR q l k (i+1) _ h
     refine ⟨e,fun j a b=>?_⟩
     by_cases ej:j=i
     · rw[ej];exact h1
     · exact h2 j o! o!
   · rw[decide_eq_false e] at h;exact absurd h e
theorem LC {q:aD} (h:aM q=0):q.aC.length≤8:=by
 rw[aM] at h
 obtain ⟨_,h⟩:=ly (by decide) h
 obtain ⟨_,h⟩:=ly (by decide) h
 obtain ⟨_,h⟩:=ly (by decide) h
 obtain ⟨_,h⟩:=ly (by decide) h
 obtain ⟨_,h⟩:=ly (by decide) h
 obtain ⟨_,h⟩:=ly (by decide) h
 obtain ⟨_,h⟩:=ly (by decide) h
 obtain ⟨_,h⟩:=ly (by decide) h
 obtain ⟨h1,_⟩:=ly (by decide) h
 have:=of_decide_eq_false h1
 omega
theorem kO {q:aD} {l:List aK} (h:bx q l=0):(∀i,i<l.length→0≤(l.g i).aL∧(l.g i).aL<(q.aC.length:Int))∧l.length≤64∧q.aC.length≤8:=by
 rw[bx] at h
 by_cases e:aM q=0
 · rw[decide_eq_true e,ak] at h
   by_cases e2:(64:Int)<((l.length:Nat):Int)
   · rw[decide_eq_true e2,ak] at h
     exact absurd (vR q l _ _ _ h).1 (by decide)
   · rw[decide_eq_false e2,aj] at h
     refine ⟨fun i hi=>?_,by omega,LC e⟩
     have k:=(vR q l _ _ _ h).2 i (Nat.zero_le _) o!
     rw[b_] at k
     obtain ⟨k1,k⟩:=ly (by decide) k
     obtain ⟨k2,_⟩:=ly (by decide) k
     have:=of_decide_eq_false k1;have:=of_decide_eq_false k2
     omega
 · rw[decide_eq_false e,aj] at h
   exact absurd (vR q l _ _ _ h).1 e
def GU:Code:=(Try.f33.body).getD .skip
theorem Pp:Try.f33.body=some GU:=by kernel_rfl
def cn (g:bV) (t:Int):Int:=(IntKind.i64.wrap (g.acc+(IntKind.i64.wrap (g.bQ*(IntKind.i64.wrap (Int.tdiv (IntKind.i64.wrap ((imax (IntKind.i64.wrap (t - g.since)) 0)+999)) 1000))))))
theorem EW {d:Nat} {h:aA} (g:bV) (t:Int) (Z2:aF.ok h g) (bS:Tidy h):cz (d+1) (.fn 33) [(AV.agg [(AV.str g.name),(Zi g.acc),(Zi g.bQ),(Zi g.since)]),(Zi t)] h= .ret (Zi (cn g t)) h:=by
 obtain ⟨h1,cj,cg,iu,bf,cf⟩:=fY bS (aX.cells [(AV.str g.name),(Zi g.acc),(Zi g.bQ),(Zi g.since)] 45 false)
 have bA:Has h h1:=cf
 have e:cn g t=(IntKind.i64.wrap (g.acc+(IntKind.i64.wrap (g.bQ*(IntKind.i64.wrap (Int.tdiv (IntKind.i64.wrap ((imax (IntKind.i64.wrap (t - g.since)) 0)+999)) 1000)))))):=by simp only[cn,ak,aj]
 rw[e]
 exact aE rfl (ba Try.func33 Pp rfl (.inr rfl) (pk (d) _ _ h _ h1 (NN cj (fun i=>(Pt i))<|CN 3<|MM (aO 3 3 (Zi g.since) bf k!)<|CN 4<|MM (aO 3 1 (Zi g.acc) bf k!)<|CC<|MM (aO 3 2 (Zi g.bQ) bf k!)<|CN 6<|ZZ) k!) k!) bA rfl
def GV:Code:=(Try.f55.body).getD .skip
theorem Pq:Try.f55.body=some GV:=by kernel_rfl
def og (a:Span):Bool:=(decide (a.aq<a.ay))
theorem Pr {d:Nat} {h:aA} (a:Span) (h_a:aF.ok h a) (bS:Tidy h):cz (d+1) (.fn 55) [(AV.agg [(Zi a.ay),(Zi a.aq)])] h= .ret (AV.bool (og a)) h:=by
 obtain ⟨h1,cj,cg,iu,bf,cf⟩:=fY bS (aX.cells [(Zi a.ay),(Zi a.aq)] 23 false)
 have bA:Has h h1:=cf
 have e:og a=(decide (a.aq<a.ay)):=by simp only[og,ak,aj]
 rw[e]
 exact aE rfl (ba Try.func55 Pq rfl (.inr rfl) (pk (d) _ _ h _ h1 (NN cj (fun i=>(Pt i))<|CN 2<|MM (aO 3 0 (Zi a.ay) bf k!)<|CC<|MM (aO 3 1 (Zi a.aq) bf k!)<|VV (cI 3 false false .i64 a.ay a.aq)<|CC<|ZZ) k!) k!) bA rfl
def Jv:Code:=(Try.f57.body).getD .skip
theorem Jw:Try.f57.body=some Jv:=by kernel_rfl
def cQ (q:aD) (k_:bC) (t:Int):Span:=(bif (decide (k_.time≤t)) then (⟨(IntKind.i64.wrap (k_.aw -(IntKind.i64.wrap (q.aI*(IntKind.i64.wrap (t - k_.time)))))),(IntKind.i64.wrap (k_.ar+(IntKind.i64.wrap (q.aH*(IntKind.i64.wrap (t - k_.time))))))⟩:Span) else (⟨(IntKind.i64.wrap (k_.aw -(IntKind.i64.wrap (q.aH*(IntKind.i64.wrap (k_.time - t)))))),(IntKind.i64.wrap (k_.ar+(IntKind.i64.wrap (q.aI*(IntKind.i64.wrap (k_.time - t))))))⟩:Span))
theorem Cl {d:Nat} {h:aA} (q:aD) (k_:bC) (t:Int) (fB:aF.ok h q) (aij:aF.ok h k_) (bS:Tidy h):cz (d+1) (.fn 57) [(AV.agg [(AV.str q.name),(Zi q.ai),(Zi q.af),(Zi q.aH),(Zi q.aI),(Zi q.bad),q.az]),(AV.agg [(Zi k_.time),(Zi k_.aw),(Zi k_.ar)]),(Zi t)] h= .ret (AV.agg [(Zi (cQ q k_ t).ay),(Zi (cQ q k_ t).aq)]) h:=by
 have hU:=fB.2.small
 obtain ⟨h1,cj,cg,iu,bf,cf⟩:=fY bS (aX.cells [(AV.str q.name),(Zi q.ai),(Zi q.af),(Zi q.aH),(Zi q.aI),(Zi q.bad),q.az] 26 false)
 have bA:Has h h1:=cf
 obtain ⟨h2,iw,eQ,te,cO,dg⟩:=fY cg (aX.cells [(Zi k_.time),(Zi k_.aw),(Zi k_.ar)] 77 false)
 have dZ:Has h h2:=bA.trans dg
 obtain ⟨h3,tf,fA,LD,pT,dq⟩:=fY eQ (aX.cells [(Zi 0),(Zi 0)] 23 false)
 have fl:Has h h3:=dZ.trans dq
 rcases bZq (decide (k_.time≤t)) with f0 | f0
 · have jW:=of_decide_eq_true f0
   obtain ⟨h5,Z9,sh,WQ,GW,SG⟩:=rA (t:=23) (n:=2) (i:=h2.nx) (L:=[(Zi (IntKind.i64.wrap (k_.aw -(IntKind.i64.wrap (q.aI*(IntKind.i64.wrap (t - k_.time))))))),(Zi (IntKind.i64.wrap (k_.ar+(IntKind.i64.wrap (q.aH*(IntKind.i64.wrap (t - k_.time)))))))]) fA pT k! rfl rfl (by simp only[AV.cells,List.all_cons,List.all_nil,Bool.and_true,Bool.and_self,eL,dw,eM,eN,cH,gZ,g_,hB,hD,hI,eO])
   have nN:Has h h5:=Has.cS fl SG bS o!
   have e:cQ q k_ t=(⟨(IntKind.i64.wrap (k_.aw -(IntKind.i64.wrap (q.aI*(IntKind.i64.wrap (t - k_.time)))))),(IntKind.i64.wrap (k_.ar+(IntKind.i64.wrap (q.aH*(IntKind.i64.wrap (t - k_.time))))))⟩:Span):=by simp only[cQ,f0,ak,aj]
   rw[e]
   exact aE rfl (hS (a:=6) (t:=23) (i:=h2.nx) Try.func57 Jw rfl (.inr rfl) (pk (d) _ _ h _ h5 (NN cj (fun i=>(Pt i))<|NN iw (fun i=>(Pt i))<|NN tf (fun i=>(Pt i))<|CN 2<|MM (aO 3 0 (Zi k_.time) (dq _ _ cO) k!)<|VV (oe 3 false false .i64 t k_.time)<|BB f0<|CN 2<|MM (aO 3 1 (Zi k_.aw) (dq _ _ cO) k!)<|CC<|MM (aO 3 4 (Zi q.aI) (dq _ _ (dg _ _ bf)) k!)<|CN 2<|MM (aO 3 0 (Zi k_.time) (dq _ _ cO) k!)<|CN 5<|MM (aO 3 2 (Zi k_.ar) (dq _ _ cO) k!)<|CC<|MM (aO 3 3 (Zi q.aH) (dq _ _ (dg _ _ bf)) k!)<|CN 2<|MM (aO 3 0 (Zi k_.time) (dq _ _ cO) k!)<|CN 4<|SS Z9<|ZZ) k!) k! (kN GW k!)) nN rfl
 · have jW:=of_decide_eq_false f0
   obtain ⟨h5,Z9,sh,WQ,GW,SG⟩:=rA (t:=23) (n:=2) (i:=h2.nx) (L:=[(Zi (IntKind.i64.wrap (k_.aw -(IntKind.i64.wrap (q.aH*(IntKind.i64.wrap (k_.time - t))))))),(Zi (IntKind.i64.wrap (k_.ar+(IntKind.i64.wrap (q.aI*(IntKind.i64.wrap (k_.time - t)))))))]) fA pT k! rfl rfl (by simp only[AV.cells,List.all_cons,List.all_nil,Bool.and_true,Bool.and_self,eL,dw,eM,eN,cH,gZ,g_,hB,hD,hI,eO])
   have nN:Has h h5:=Has.cS fl SG bS o!
   have e:cQ q k_ t=(⟨(IntKind.i64.wrap (k_.aw -(IntKind.i64.wrap (q.aH*(IntKind.i64.wrap (k_.time - t)))))),(IntKind.i64.wrap (k_.ar+(IntKind.i64.wrap (q.aI*(IntKind.i64.wrap (k_.time - t))))))⟩:Span):=by simp only[cQ,f0,ak,aj]
   rw[e]
   exact aE rfl (hS (a:=6) (t:=23) (i:=h2.nx) Try.func57 Jw rfl (.inr rfl) (pk (d) _ _ h _ h5 (NN cj (fun i=>(Pt i))<|NN iw (fun i=>(Pt i))<|NN tf (fun i=>(Pt i))<|CN 2<|MM (aO 3 0 (Zi k_.time) (dq _ _ cO) k!)<|VV (oe 3 false false .i64 t k_.time)<|BB f0<|CN 2<|MM (aO 3 1 (Zi k_.aw) (dq _ _ cO) k!)<|CC<|MM (aO 3 3 (Zi q.aH) (dq _ _ (dg _ _ bf)) k!)<|CC<|MM (aO 3 0 (Zi k_.time) (dq _ _ cO) k!)<|CN 6<|MM (aO 3 2 (Zi k_.ar) (dq _ _ cO) k!)<|CC<|MM (aO 3 4 (Zi q.aI) (dq _ _ (dg _ _ bf)) k!)<|CC<|MM (aO 3 0 (Zi k_.time) (dq _ _ cO) k!)<|CN 5<|SS Z9<|ZZ) k!) k! (kN GW k!)) nN rfl
def Jx:Code:=(Try.f56.body).getD .skip
theorem SH:Try.f56.body=some Jx:=by kernel_rfl
def kH (a:Span) (b:Span):Span:=(⟨(imax a.ay b.ay),(xB a.aq b.aq)⟩:Span)
theorem Jy {d:Nat} {h:aA} (a:Span) (b:Span) (h_a:aF.ok h a) (h_b:aF.ok h b) (bS:Tidy h):cz (d+1) (.fn 56) [(AV.agg [(Zi a.ay),(Zi a.aq)]),(AV.agg [(Zi b.ay),(Zi b.aq)])] h= .ret (AV.agg [(Zi (kH a b).ay),(Zi (kH a b).aq)]) h:=by
 obtain ⟨h1,cj,cg,iu,bf,cf⟩:=fY bS (aX.cells [(Zi a.ay),(Zi a.aq)] 23 false)
 have bA:Has h h1:=cf
 obtain ⟨h2,iw,eQ,te,cO,dg⟩:=fY cg (aX.cells [(Zi b.ay),(Zi b.aq)] 23 false)
 have dZ:Has h h2:=bA.trans dg
 obtain ⟨h3,tf,fA,LD,pT,dq⟩:=fY eQ (aX.cells [(Zi 0),(Zi 0)] 23 false)
 have fl:Has h h3:=dZ.trans dq
 obtain ⟨h4,Z_,oh,Ps,zl,SI⟩:=rA (t:=23) (n:=2) (i:=h2.nx) (L:=[(Zi (imax a.ay b.ay)),(Zi (xB a.aq b.aq))]) fA pT k! rfl rfl (by simp only[AV.cells,List.all_cons,List.all_nil,Bool.and_true,Bool.and_self,eL,dw,eM,eN,cH,gZ,g_,hB,hD,hI,eO])
 have nO:Has h h4:=Has.cS fl SI bS o!
 have e:kH a b=(⟨(imax a.ay b.ay),(xB a.aq b.aq)⟩:Span):=by simp only[kH,ak,aj]
 rw[e]
 exact aE rfl (hS (a:=4) (t:=23) (i:=h2.nx) Try.func56 SH rfl (.inr rfl) (pk (d) _ _ h _ h4 (NN cj (fun i=>(Pt i))<|NN iw (fun i=>(Pt i))<|NN tf (fun i=>(Pt i))<|CC<|MM (aO 3 0 (Zi a.ay) (dq _ _ (dg _ _ bf)) k!)<|CC<|MM (aO 3 0 (Zi b.ay) (dq _ _ cO) k!)<|CN 2<|MM (aO 3 1 (Zi a.aq) (dq _ _ (dg _ _ bf)) k!)<|CC<|MM (aO 3 1 (Zi b.aq) (dq _ _ cO) k!)<|CN 2<|SS Z_<|ZZ) k!) k! (kN zl k!)) nO rfl
def rB:Code:=(Try.f34.body).getD .skip
theorem EX:Try.f34.body=some rB:=by kernel_rfl
def Jz:Code:=(cc rB).getD 0 .skip
def JA:Code:=(cc rB).getD 1 .skip
def jl (l_:List bC) (q:aD) (i0:Nat):Nat→Nat→Option (Bool)
 | 0,_=>none
 | bD+1,i1=>(bif (og (kH (cQ q (l_.g i0) (l_.g i1).time) (⟨(l_.g i1).aw,(l_.g i1).ar⟩:Span))) then some false else jl l_ q i0 bD (i1+1))
theorem rC {d:Nat} {h:aA} (bJ:AV) (i0:Nat) (l_:List bC) (q:aD) (dz:Nat) (iv:aY h bJ l_) (oX:q.name.length<2^60) (Cm:aY h q.az q.aC) (AG:aF.ok h q) (Js:i0<l_.length):∀(k_ i_:Nat) (_:i_+k_=l_.length) (x:Nat→AV) (hh:aA) (aQ:Tidy hh) (aW:Has h hh) (dP:hh.get dz=some (aX.cells [(AV.str q.name),(Zi q.ai),(Zi q.af),(Zi q.aH),(Zi q.aI),(Zi q.bad),q.az] 26 false)),aU (cz (d+1)) JA ⟨((x 0)::bJ::(Pt dz)::(x 3)::(x 4)::(Zn i0)::(Zn i_)::rx x 7 30 []),hh,[],.no⟩ (.exit 2) hh (fun y=>((y 0)::bJ::(Pt dz)::(y 3)::(y 4)::(Zn i0)::rx y 6 31 [])) (fun r y=>((y 0)::bJ::(Pt dz)::(y 3)::(AV.bool r)::(Zn i0)::rx y 6 31 [])) (jl l_ q i0 k_ i_)
 | 0,i1,kY,x,hh,aQ,aW,dP=>by
   have Cn:=iv.small
   have LF:=Cm.small
   have Ce:=aQ _ _ dP
   have ja:dy (some (.slice 77)) (some bJ)=some (Zn l_.length):=(iv.has aW).len
   have q2:(decide (((i1:Nat):Int)<((l_.length:Nat):Int)))=false:=d!
   exact aU.out rfl (pk (d+1) _ _ hh _ hh (CN 2<|VV ja<|VV (bK 3 false false .i64 ((i1:Nat):Int) ((l_.length:Nat):Int))<|BB q2<|ZZ) k!) (Grow.refl aQ) k!
 | bD+1,i1,kY,x,hh,aQ,aW,dP=>by
   have Cn:=iv.small
   have LF:=Cm.small
   have Ce:=aQ _ _ dP
   have ja:dy (some (.slice 77)) (some bJ)=some (Zn l_.length):=(iv.has aW).len
   have q2:(decide (((i1:Nat):Int)<((l_.length:Nat):Int)))=true:=d!
   obtain ⟨p4,q5,jD⟩:=(iv.has aW).elem (i:=i0) o!
   have tb:cK env (some (.slice 77)) (some bJ) (some (Zn i0))=some (AV.ptr p4 q5):=jD
   have qv:bk env hh 77 (AV.ptr p4 q5)=some (AV.agg [(Zi (l_.g i0).time),(Zi (l_.g i0).aw),(Zi (l_.g i0).ar)]):=(iv.has aW).load o! jD
   obtain ⟨p8,q9,AH⟩:=(iv.has aW).elem (i:=i1) o!
   have NB:cK env (some (.slice 77)) (some bJ) (some (Zn i1))=some (AV.ptr p8 q9):=AH
   have AI:bk env hh 3 (AV.ptr p8 (q9+0))=some (Zi (l_.g i1).time):=(iv.has aW).part (t:=3) (j:=0) o! AH k! rfl
   obtain ⟨p12,Qp,Jt⟩:=(iv.has aW).elem (i:=i1) o!
   have WO:cK env (some (.slice 77)) (some bJ) (some (Zn i1))=some (AV.ptr p12 Qp):=Jt
   have xH:bk env hh 23 (AV.ptr p12 (Qp+1))=some (AV.agg [(Zi (l_.g i1).aw),(Zi (l_.g i1).ar)]):=(iv.has aW).Yb (t:=23) (j:=1) (n:=2) o! Jt k! k! (by decide) rfl
   have Kv:=Cl (d:=d) q (l_.g i0) (l_.g i1).time (aF.mono aW AG) trivial aQ
   have k16:=Jy (d:=d) (cQ q (l_.g i0) (l_.g i1).time) (⟨(l_.g i1).aw,(l_.g i1).ar⟩:Span) trivial trivial aQ
   have Ya:=Pr (d:=d) (kH (cQ q (l_.g i0) (l_.g i1).time) (⟨(l_.g i1).aw,(l_.g i1).ar⟩:Span)) trivial aQ
   have c18:AV.same 20 (AV.agg [(AV.str q.name),(Zi q.ai),(Zi q.af),(Zi q.aH),(Zi q.aI),(Zi q.bad),q.az]) (AV.agg [(AV.str q.name),(Zi q.ai),(Zi q.af),(Zi q.aH),(Zi q.aI),(Zi q.bad),q.az])=true:=dM 18 (iC (fun n=>jS n _) (iC (fun n=>aJ n _ _) (iC (fun n=>aJ n _ _) (iC (fun n=>aJ n _ _) (iC (fun n=>aJ n _ _) (iC (fun n=>aJ n _ _) (iC (Cm.has aW).same DC)))))))
   have c19:AV.same 20 (AV.agg [(Zi (l_.g i0).time),(Zi (l_.g i0).aw),(Zi (l_.g i0).ar)]) (AV.agg [(Zi (l_.g i0).time),(Zi (l_.g i0).aw),(Zi (l_.g i0).ar)])=true:=dM 18 (iC (fun n=>aJ n _ _) (iC (fun n=>aJ n _ _) (iC (fun n=>aJ n _ _) DC)))
   have c20:AV.same 20 (AV.agg [(Zi (l_.g i1).aw),(Zi (l_.g i1).ar)]) (AV.agg [(Zi (l_.g i1).aw),(Zi (l_.g i1).ar)])=true:=dM 18 (iC (fun n=>aJ n _ _) (iC (fun n=>aJ n _ _) DC))
   rcases bZq (og (kH (cQ q (l_.g i0) (l_.g i1).time) (⟨(l_.g i1).aw,(l_.g i1).ar⟩:Span))) with f1 | f1
   · exact aU.ret false (by simp only[jl,f1,ak,aj]) (pk (d+1) _ _ hh _ hh (CN 2<|VV ja<|VV (bK 3 false false .i64 ((i1:Nat):Int) ((l_.length:Nat):Int))<|BM q2 (aO 26 0 (AV.agg [(AV.str q.name),(Zi q.ai),(Zi q.af),(Zi q.aH),(Zi q.aI),(Zi q.bad),q.az]) dP k!)<|CN 2<|VV tb<|MM qv<|CN 2<|VV NB<|CC<|MM AI<|CN 2<|VV WO<|CC<|MM xH<|EE Kv<|EE k16<|EE Ya<|HH (aO 26 0 (AV.agg [(AV.str q.name),(Zi q.ai),(Zi q.af),(Zi q.aH),(Zi q.aI),(Zi q.bad),q.az]) dP k!)<|HH c18<|HH qv<|HH c19<|HH AI<|HH (show AV.same 20 (Zi (l_.g i1).time) (Zi (l_.g i1).time)=true from aJ 19 _ _)<|HH xH<|HH c20<|HH xH<|HH c20<|BC f1<|ZZ) k!) (Grow.refl aQ) k!
   · have u22:=fu 3 false true i1 1 o!
     exact aU.round (by simp only[jl,f1,ak,aj]) (pk (d+1) _ _ hh _ hh (CN 2<|VV ja<|VV (bK 3 false false .i64 ((i1:Nat):Int) ((l_.length:Nat):Int))<|BM q2 (aO 26 0 (AV.agg [(AV.str q.name),(Zi q.ai),(Zi q.af),(Zi q.aH),(Zi q.aI),(Zi q.bad),q.az]) dP k!)<|CN 2<|VV tb<|MM qv<|CN 2<|VV NB<|CC<|MM AI<|CN 2<|VV WO<|CC<|MM xH<|EE Kv<|EE k16<|EE Ya<|HH (aO 26 0 (AV.agg [(AV.str q.name),(Zi q.ai),(Zi q.af),(Zi q.aH),(Zi q.aI),(Zi q.bad),q.az]) dP k!)<|HH c18<|HH qv<|HH c19<|HH AI<|HH (show AV.same 20 (Zi (l_.g i1).time) (Zi (l_.g i1).time)=true from aJ 19 _ _)<|HH xH<|HH c20<|HH xH<|HH c20<|BC f1<|VV u22<|CC<|ZZ) k!) (Grow.refl aQ) _ k! (fun x=>rC bJ i0 l_ q dz iv oX Cm AG Js bD (i1+1) o! x hh aQ aW dP)
def jm (l_:List bC) (q:aD):Nat→Nat→Option (Bool)
 | 0,_=>none
 | dQ+1,i0=>(match (jl l_ q i0 l_.length 0) with | none=>jm l_ q dQ (i0+1) | some rr3=>some rr3)
theorem rD {d:Nat} {h:aA} (bJ:AV) (l_:List bC) (q:aD) (bL:Nat) (bF:aY h bJ l_) (eZ:q.name.length<2^60) (iy:aY h q.az q.aC) (kG:aF.ok h q):∀(k_ i_:Nat) (_:i_+k_=l_.length) (x:Nat→AV) (hh:aA) (aQ:Tidy hh) (aW:Has h hh) (bG:hh.get bL=some (aX.cells [(AV.str q.name),(Zi q.ai),(Zi q.af),(Zi q.aH),(Zi q.aI),(Zi q.bad),q.az] 26 false)),aU (cz (d+1)) Jz ⟨((x 0)::bJ::(Pt bL)::(x 3)::(x 4)::(Zn i_)::rx x 6 31 []),hh,[],.no⟩ (.exit 0) hh (fun y=>((y 0)::bJ::(Pt bL)::rx y 3 34 [])) (fun r y=>((y 0)::bJ::(Pt bL)::(y 3)::(AV.bool r)::rx y 5 32 [])) (jm l_ q k_ i_)
 | 0,i0,kY,x,hh,aQ,aW,bG=>by
   have eR:=bF.small
   have mK:=iy.small
   have pS:=aQ _ _ bG
   have ja:dy (some (.slice 77)) (some bJ)=some (Zn l_.length):=(bF.has aW).len
   have q2:(decide (((i0:Nat):Int)<((l_.length:Nat):Int)))=false:=d!
   exact aU.out rfl (pk (d+1) _ _ hh _ hh (CN 2<|VV ja<|VV (bK 3 false false .i64 ((i0:Nat):Int) ((l_.length:Nat):Int))<|BB q2<|ZZ) k!) (Grow.refl aQ) k!
 | dQ+1,i0,kY,x,hh,aQ,aW,bG=>by
   have eR:=bF.small
   have mK:=iy.small
   have pS:=aQ _ _ bG
   have ja:dy (some (.slice 77)) (some bJ)=some (Zn l_.length):=(bF.has aW).len
   have q2:(decide (((i0:Nat):Int)<((l_.length:Nat):Int)))=true:=d!
   cases GX:jl l_ q i0 l_.length 0 with
   | none=>
     obtain ⟨SJ,h4,rE,tg⟩:=aU.n GX (rC (d:=d) (h:=hh) bJ i0 l_ q bL (bF.has aW) eZ (iy.has aW) (aF.mono aW kG) o! l_.length 0 o! (fun k_=>(((x 0)::bJ::(Pt bL)::(x 3)::(x 4)::(Zn i0)::(Zi 0)::(Zn i0)::bJ::(Zn l_.length)::(AV.bool (decide (((i0:Nat):Int)<((l_.length:Nat):Int))))::rx x 11 26 []):List AV).getD k_ AV.undef) hh aQ (Has.refl _) bG)
     have oh:=tg.y
     have Pw:hh.nx≤h4.nx:=tg.n
     have nO:Has hh h4:=tg.a
     have u5:=fu 3 false true i0 1 o!
     exact aU.round (by simp only[jm,GX,ak,aj]) (pk (d+1) _ _ hh _ h4 (CN 2<|VV ja<|VV (bK 3 false false .i64 ((i0:Nat):Int) ((l_.length:Nat):Int))<|BC q2<|LL rE<|CC<|VV u5<|CC<|ZZ) k!) (⟨oh,nO,by omega⟩) _ k! (fun x=>rD bJ l_ q bL bF eZ iy kG dQ (i0+1) o! x h4 oh (aW.trans nO) (tg.a _ _ bG))
   | some rr3=>
     obtain ⟨SJ,h4,rE,tg⟩:=aU.r GX (rC (d:=d) (h:=hh) bJ i0 l_ q bL (bF.has aW) eZ (iy.has aW) (aF.mono aW kG) o! l_.length 0 o! (fun k_=>(((x 0)::bJ::(Pt bL)::(x 3)::(x 4)::(Zn i0)::(Zi 0)::(Zn i0)::bJ::(Zn l_.length)::(AV.bool (decide (((i0:Nat):Int)<((l_.length:Nat):Int))))::rx x 11 26 []):List AV).getD k_ AV.undef) hh aQ (Has.refl _) bG)
     have oh:=tg.y
     have Pw:hh.nx≤h4.nx:=tg.n
     have nO:Has hh h4:=tg.a
     exact aU.ret rr3 (by simp only[jm,GX,ak,aj]) (pk (d+1) _ _ hh _ h4 (CN 2<|VV ja<|VV (bK 3 false false .i64 ((i0:Nat):Int) ((l_.length:Nat):Int))<|BC q2<|LL rE<|ZZ) k!) (⟨oh,nO,by omega⟩) k!
def jI (q:aD) (l_:List bC):Bool:=(match (jm l_ q l_.length 0) with | none=>true | some LG=>LG)
theorem EY {d:Nat} {h:aA} {bJ:AV} (q:aD) (l_:List bC) (fB:aF.ok h q) (dR:aY h bJ l_) (bS:Tidy h):cz (d+2) (.fn 34) [(AV.agg [(AV.str q.name),(Zi q.ai),(Zi q.af),(Zi q.aH),(Zi q.aI),(Zi q.bad),q.az]),bJ] h= .ret (AV.bool (jI q l_)) h:=by
 have mL:=dR.small
 have hU:=fB.2.small
 obtain ⟨h1,cj,cg,iu,bf,cf⟩:=fY bS (aX.cells [(AV.str q.name),(Zi q.ai),(Zi q.af),(Zi q.aH),(Zi q.aI),(Zi q.bad),q.az] 26 false)
 have bA:Has h h1:=cf
 cases jn:jm l_ q l_.length 0 with
 | none=>
   obtain ⟨Qq,h3,fG,gP⟩:=aU.n jn (rD (d:=d) (h:=h) bJ l_ q h.nx dR fB.1 fB.2 fB l_.length 0 o! (fun k_=>(((AV.agg [(AV.str q.name),(Zi q.ai),(Zi q.af),(Zi q.aH),(Zi q.aI),(Zi q.bad),q.az])::bJ::(Pt h.nx)::AV.undef::(AV.bool false)::(Zi 0)::iL 31):List AV).getD k_ AV.undef) h1 cg bA bf)
   have fA:=gP.y
   have qw:h1.nx≤h3.nx:=gP.n
   have fl:Has h h3:=bA.trans gP.a
   have e:jI q l_=true:=by simp only[jI,jn,ak,aj]
   rw[e]
   exact aE rfl (ba Try.func34 EX rfl (.inr rfl) (pk (d+1) _ _ h _ h3 (NN cj (fun i=>(Pt i))<|CN 2<|LL fG<|CC<|ZZ) k!) k!) fl rfl
 | some LG=>
   obtain ⟨Qq,h3,fG,gP⟩:=aU.r jn (rD (d:=d) (h:=h) bJ l_ q h.nx dR fB.1 fB.2 fB l_.length 0 o! (fun k_=>(((AV.agg [(AV.str q.name),(Zi q.ai),(Zi q.af),(Zi q.aH),(Zi q.aI),(Zi q.bad),q.az])::bJ::(Pt h.nx)::AV.undef::(AV.bool false)::(Zi 0)::iL 31):List AV).getD k_ AV.undef) h1 cg bA bf)
   have fA:=gP.y
   have qw:h1.nx≤h3.nx:=gP.n
   have fl:Has h h3:=bA.trans gP.a
   have e:jI q l_=LG:=by simp only[jI,jn,ak,aj]
   rw[e]
   exact aE rfl (ba Try.func34 EX rfl (.inr rfl) (pk (d+1) _ _ h _ h3 (NN cj (fun i=>(Pt i))<|CN 2<|LL fG<|ZZ) k!) k!) fl rfl
def Co (z w:AV):Prop:=∀k,b6 z k∨b6 w k
theorem b6.nil (k:Nat):b6 .aP k:=fun _ _ _ _ e=>by cases e
theorem Co.nil (w:AV):Co .aP w:=fun k=> .inl (b6.nil k)
theorem Co.symm {z w:AV} (a:Co z w):Co w z:=fun k=>(a k).symm
theorem b6.sl {p o n c k:Nat} {b:Bool} (h:p≠k):b6 (.slice p o n c b) k:=fun o' n' c' b' e=>h (AV.slice.inj e).1
section
variable {e:TypeId} {g h h':aA} {z z' w:AV} {L M:List AV}
theorem dk.SK (y:Tidy h) (o:dk e g h z L) {k:Nat} (hk:h.nx≤k):b6 z k:=by
 rcases o with ⟨rfl,_⟩ | ⟨_,p,op,rfl,_,hg⟩
 · exact b6.nil k
 · have:=y _ _ hg
   exact b6.sl o!
theorem dk.ay (o:dk e g h z L) {k:Nat} (hk:k<g.nx):b6 z k:=by
 rcases o with ⟨rfl,_⟩ | ⟨_,p,op,rfl,hp,hg⟩
 · exact b6.nil k
 · exact b6.sl o!
theorem dk.wF (o:dk e g h w L) (ap:Co z w) (kp:∀i x,b6 z i→h.get i=some x→h'.get i=some x):dk e g h' w L:=by
 rcases o with ⟨rfl,e0⟩ | ⟨hn,p,op,rfl,hp,hg⟩
 · exact .inl ⟨rfl,e0⟩
 · exact .inr ⟨hn,p,op,rfl,hp,kp _ _ ((ap p).resolve_right fun q=>q _ _ _ _ rfl) hg⟩
theorem dk.scalar (o:dk e g h z L):AV.scalar z=true:=by
 rcases o with ⟨rfl,_⟩ | ⟨_,p,op,rfl,_,_⟩<;>rfl
theorem dk.kept {b:Nat} (o:dk e g h z L) (c:Kept b h h') (n:b6 z b):dk e g h' z L:=by
 rcases o with ⟨rfl,e0⟩ | ⟨hn,p,op,rfl,hp,hg⟩
 · exact .inl ⟨rfl,e0⟩
 · exact .inr ⟨hn,p,op,rfl,hp,c _ _ (fun q=>n 0 _ _ op (by subst q;rfl)) hg⟩
theorem dk.same {L':List AV} (o:dk e g h z L) (o':dk e g h' z L') (a:Has h h'):L'=L:=by
 rcases o with ⟨rfl,e0⟩ | ⟨hn,p,op,rfl,hp,hg⟩<;>rcases o' with ⟨e1,e2⟩ | ⟨Y2,p',op',e1,Zg,hg'⟩
 · rw[e0,e2]
 · cases e1
 · cases e1
 · have q:=(AV.slice.inj e1).1
   subst q
   have:=a _ _ hg
   rw[hg'] at this
   simpa using this
theorem dk.O3 {s xt:TypeId} {xd:TypeDesc} {tys:Array TypeId} {bytes:Nat} {z0 x:AV} (y:Tidy h) (hle:g.nx≤h.nx) (o:dk e g h z L) (t0:tys[0]? =some s) (t1:tys[1]? =some xt) (hs:env.P.underlying s=some (.slice e)) (hx:env.P.underlying xt=some xd) (hi:mD xd=false) (H4:ch env e=some 1) (hb:fQ env e=some bytes) (ss:fC env e=some z0) (hz:z0.cells.length=1) (h8:bytes≤63) (hlen:nE x=some M.length) (hf:fj h 1 M.length x=some M) (qN:M.all AV.scalar=true) (hl:L.length+M.length≤1073741824):
 ∃z' h',bX env h tys z x=some (z',h')∧Tidy h'∧h.nx≤h'.nx∧dk e g h' z' (L++M)∧(∀i w,b6 z i→h.get i=some w→h'.get i=some w)∧(∀k,k<h.nx→b6 z k→b6 z' k):=by
 by_cases hm:M=[]
 · subst hm
   rcases o with ⟨rfl,rfl⟩ | ⟨hn,p,op,rfl,hp,hg⟩
   · refine ⟨.aP,h,?_,y,Nat.le_refl _,.inl ⟨rfl,rfl⟩,fun _ _ _ q=>q,fun _ _ q=>q⟩
     simp only[List.length_nil] at hlen hf
     simp only[bX,t0,t1,hs,hx,hi,H4,hb,hlen,hf,ss,hz,qN,if_true,if_false,and_self,List.length_nil,Bool.false_eq_true,Nat.zero_mul]
   · have hg2:∀i,(h.put p (some (.cells L e false))).get i=h.get i:=fun i=>by
      by_cases q:i=p
      · subst q;rw[aA.ck,hg]
      · rw[aA.bB (Ne.symm q)]
     refine ⟨_,h.put p (some (.cells L e false)),?_,fun i x q=>y i x (by rw[←hg2];exact q),Nat.le_refl _,.inr ⟨by simpa using hn,p,op,by rw[List.append_nil],hp,by rw[hg2,List.append_nil];exact hg⟩,fun i w _ q=>by rw[hg2];exact q,fun _ _ q=>q⟩
     simp only[List.length_nil] at hlen hf
     simp only[bX,t0,t1,hs,hx,hi,H4,hb,hlen,hf,ss,hz,qN,hg,if_true,if_false,and_self,List.length_nil,Bool.false_eq_true,Nat.zero_mul,Nat.add_zero,Nat.zero_add,Nat.le_refl,Nat.mul_one,setFrom]
 · rcases o with ⟨rfl,rfl⟩ | ⟨hn,p,op,rfl,hp,hg⟩
   · obtain ⟨h',e1,n⟩:=s9 (h:=h) t0 t1 hs hx hi H4 hb ss hz h8 hlen hf qN hm (by simpa using hl)
     have:=mI n
     exact ⟨_,h',e1,hQ y n,by omega,.inr ⟨by simpa using hm,h.nx,true,by simp,hle,km n⟩,fun i w _ q=>hJ y n q,fun k hk _=>b6.sl o!⟩
   · obtain ⟨h',e1,y1,z1,k1,g1⟩:=s_ (op:=op) y t0 t1 hs hx hi H4 hb ss hz h8 hlen hf qN rfl hm hl hg
     exact ⟨_,h',e1,y1,by omega,.inr ⟨by simp [hn],h.nx,true,by rw[List.length_append],hle,g1⟩,fun i w q=>k1 i w (fun e=>q 0 L.length L.length op (by subst e;rfl)),fun k hk _=>b6.sl o!⟩
end
section
variable {α:Type} [aF α] {h0 h h':aA} {z z' w:AV} {l m:List α}
theorem bH.acT {s xt:TypeId} {tys:Array TypeId} {bytes N:Nat} {z0 x:AV} (y:Tidy h) (y0:Tidy h0) (a:Has h0 h) (hle:h0.nx≤h.nx) (o:bH h0 h z l) (hlen:nE x=some m.length) (hf:fj h (aF.n α) m.length x=some (m.flatMap aF.c)) (qN:(m.flatMap aF.c).all AV.scalar=true) (hl:l.length+m.length≤N)
 (t0:tys[0]? =some s) (t1:tys[1]? =some xt) (hs:env.P.underlying s=some (.slice (aF.e α))) (hx:env.P.underlying xt=some (.slice (aF.e α))) (hb:fQ env (aF.e α)=some bytes) (ss:fC env (aF.e α)=some z0) (hz:z0.cells.length=aF.n α) (ZX:∀k,k≤N→(4*k+4096)*(bytes+1)≤1099511627776):
 ∃z' h',bX env h tys z x=some (z',h')∧Tidy h'∧h.nx≤h'.nx∧Has h0 h'∧bH h0 h' z' (l++m)∧(∀i w,b6 z i→h.get i=some w→h'.get i=some w)∧(∀k,k<h.nx→b6 z k→b6 z' k):=by
 have B9:=dc aF.len m
 have hi:mD (.slice (aF.e α))=false:=rfl
 have xC:∀{p:Nat} {ob:aX},h.get p=some ob→Tidy (h.put p (some ob))∧Has h0 (h.put p (some ob))∧(∀i w,h.get i=some w→(h.put p (some ob)).get i=some w):=fun {p ob} g=>by
  have hg:∀i,(h.put p (some ob)).get i=h.get i:=fun i=>by
   by_cases e:i=p
   · subst e;rw[aA.ck,g]
   · rw[aA.bB (Ne.symm e)]
  exact ⟨fun i w q=>y i w (by rw[←hg];exact q),fun i w q=>by rw[hg];exact a i w q,fun i w q=>by rw[hg];exact q⟩
 have Sy:m≠ []→∃h',h.new (.cells (m.flatMap aF.c) (aF.e α) false)=some h'∧Tidy h'∧h.nx≤h'.nx∧Has h0 h'∧bH h0 h' (.slice h.nx 0 m.length m.length true) m∧∀i w,h.get i=some w→h'.get i=some w:=fun hm=>by
  obtain ⟨h',n⟩:=nL (h:=h) (.cells (m.flatMap aF.c) (aF.e α) false)
  have:=mI n
  exact ⟨h',n,hQ y n,by omega,a.trans (xy y n),.inr ⟨hm,h.nx,true,rfl,hle,km n⟩,fun i w g=>hJ y n g⟩
 rcases o with ⟨rfl | ⟨p,rfl,hp,hg⟩,rfl⟩ | ⟨hn,p,op,rfl,hp,hg⟩
 · rw[List.nil_append]
   by_cases hm:m=[]
   · subst hm
     simp only[List.length_nil,List.flatMap_nil,Nat.zero_mul] at hlen hf qN B9
     refine ⟨.aP,h,?_,y,Nat.le_refl _,a,.inl ⟨.inl rfl,rfl⟩,fun _ _ _ g=>g,fun _ _ q=>q⟩
     simp only[bX,t0,t1,hs,hx,hi,aF.size,hb,hlen,hf,ss,hz,qN,B9,if_true,if_false,and_self,List.length_nil,Bool.false_eq_true,Nat.zero_mul]
   · obtain ⟨h',n,q1,q2,q3,q4,q5⟩:=Sy hm
     have Qb:¬m.length=0:=fun e=>hm (List.length_eq_zero_iff.1 e)
     refine ⟨_,h',?_,q1,q2,q3,q4,fun i w _ g=>q5 i w g,fun k hk _=>b6.sl o!⟩
     simp only[bX,t0,t1,hs,hx,hi,aF.size,hb,hlen,hf,ss,hz,qN,B9,Qb,ZX m.length o!,n,if_true,if_false,and_self,Bool.false_eq_true]
 · rw[List.nil_append]
   by_cases hm:m=[]
   · subst hm
     simp only[List.length_nil,List.flatMap_nil,Nat.zero_mul] at hlen hf qN B9
     obtain ⟨q1,q2,q3⟩:=xC hg
     refine ⟨_,_,?_,q1,Nat.le_refl _,q2,.inl ⟨.inr ⟨p,rfl,hp,q3 _ _ hg⟩,rfl⟩,fun i w _ g=>q3 i w g,fun _ _ q=>q⟩
     simp only[bX,t0,t1,hs,hx,hi,aF.size,hb,hlen,hf,ss,hz,qN,B9,hg,if_true,if_false,and_self,List.length_nil,Bool.false_eq_true,Nat.zero_mul,Nat.add_zero,Nat.le_refl,List.flatMap_nil,setFrom]
   · obtain ⟨h',n,q1,q2,q3,q4,q5⟩:=Sy hm
     have Qb:¬m.length≤0:=fun e=>hm (List.length_eq_zero_iff.1 o!)
     refine ⟨_,h',?_,q1,q2,q3,q4,fun i w _ g=>q5 i w g,fun k hk _=>b6.sl o!⟩
     simp only[bX,t0,t1,hs,hx,hi,aF.size,hb,hlen,hf,ss,hz,qN,B9,hg,Qb,if_true,if_false,and_self,Bool.false_eq_true,Nat.zero_mul,Nat.add_zero,Nat.zero_add,List.length_nil,Nat.le_refl]
     rw[if_pos ⟨ZX m.length o!,trivial,fun e=>e.elim⟩]
     simp only[List.drop_nil,List.take_nil,List.nil_append,n]
 · have hlp:0<l.length:=List.length_pos_iff.2 hn
   have hpx:=y _ _ hg
   have Qj:=dc aF.len l
   by_cases hm:m=[]
   · subst hm
     simp only[List.length_nil,List.flatMap_nil,Nat.zero_mul] at hlen hf qN B9
     obtain ⟨q1,q2,q3⟩:=xC hg
     rw[List.append_nil]
     refine ⟨_,_,?_,q1,Nat.le_refl _,q2,.inr ⟨hn,p,op,rfl,hp,q3 _ _ hg⟩,fun i w _ g=>q3 i w g,fun _ _ q=>q⟩
     simp only[bX,t0,t1,hs,hx,hi,aF.size,hb,hlen,hf,ss,hz,qN,B9,hg,Qj,if_true,if_false,and_self,List.length_nil,Bool.false_eq_true,Nat.zero_mul,Nat.add_zero,Nat.zero_add,Nat.le_refl,List.flatMap_nil,setFrom]
   · have hm0:0<m.length:=List.length_pos_iff.2 hm
     have y2:Tidy (if op then h.put p none else h):=by
      cases op with
      | false=>exact y
      | true=>
        intro i x g
        show i<h.nx
        by_cases hi:i=p
        · subst hi;exact hpx
        · rw[if_pos rfl,aA.bB (Ne.symm hi)] at g;exact y i x g
     have n2:(if op then h.put p none else h).nx=h.nx:=by cases op<;>rfl
     have k2:∀i w,i≠p→h.get i=some w→(if op then h.put p none else h).get i=some w:=fun i w hi g=>by
      cases op with
      | false=>exact g
      | true=>rw[if_pos rfl,aA.bB (Ne.symm hi)];exact g
     obtain ⟨h',n⟩:=nL (h:=if op then h.put p none else h) (.cells (l.flatMap aF.c++m.flatMap aF.c) (aF.e α) false)
     have hk:∀i w,i≠p→h.get i=some w→h'.get i=some w:=fun i w hi g=>hJ y2 n (k2 i w hi g)
     have hc:¬l.length+m.length≤l.length:=by omega
     refine ⟨.slice h.nx 0 (l.length+m.length) (l.length+m.length) true,h',?_,hQ y2 n,by rw[mI n,n2];omega,fun i w g=>?_,.inr ⟨by simp [hn],h.nx,true,by rw[List.length_append],hle,by rw[List.flatMap_append,←n2];exact km n⟩,fun i w q g=>hk i w (fun e=>q 0 l.length l.length op (by subst e;rfl)) g,fun k hk _=>b6.sl o!⟩
     · simp only[bX,t0,t1,hs,hx,hi,aF.size,hb,hlen,hf,ss,hz,qN,B9,hg,hc,if_true,if_false,and_self,Bool.false_eq_true]
       rw[if_pos ⟨ZX _ hl,by rw[Qj];omega,fun _=>⟨trivial,by rw[Qj];omega,trivial⟩⟩]
       rw[List.drop_zero,List.take_of_length_le (by rw[Qj];exact Nat.le_refl _),n]
     · have:=y0 _ _ g
       exact hk i w o! (a i w g)
theorem bH.B_ {s xt:TypeId} {tys:Array TypeId} {bytes:Nat} {z0 x:AV} (y:Tidy h) (y0:Tidy h0) (a:Has h0 h) (hle:h0.nx≤h.nx) (o:bH h0 h z l) (hlen:nE x=some m.length) (hf:fj h (aF.n α) m.length x=some (m.flatMap aF.c)) (qN:(m.flatMap aF.c).all AV.scalar=true) (hl:l.length+m.length≤1000000000)
 (t0:tys[0]? =some s) (t1:tys[1]? =some xt) (hs:env.P.underlying s=some (.slice (aF.e α))) (hx:env.P.underlying xt=some (.slice (aF.e α))) (hb:fQ env (aF.e α)=some bytes) (ss:fC env (aF.e α)=some z0) (hz:z0.cells.length=aF.n α) (h8:bytes≤255):
 ∃z' h',bX env h tys z x=some (z',h')∧Tidy h'∧h.nx≤h'.nx∧Has h0 h'∧bH h0 h' z' (l++m)∧(∀i w,b6 z i→h.get i=some w→h'.get i=some w)∧(∀k,k<h.nx→b6 z k→b6 z' k):=
 bH.acT y y0 a hle o hlen hf qN hl t0 t1 hs hx hb ss hz fun k hk=>Nat.le_trans (Nat.mul_le_mul (show 4*k+4096≤4294967296 by omega) (show bytes+1≤256 by omega)) (by decide)
theorem bH.kept {b:Nat} (o:bH h0 h z l) (c:Kept b h h') (n:b6 z b):bH h0 h' z l:=by
 rcases o with ⟨rfl | ⟨p,rfl,h1,h2⟩,rfl⟩ | ⟨hn,p,op,rfl,hp,hg⟩
 · exact .inl ⟨.inl rfl,rfl⟩
 · exact .inl ⟨.inr ⟨p,rfl,h1,c _ _ (fun q=>n 0 _ _ false (by subst q;rfl)) h2⟩,rfl⟩
 · exact .inr ⟨hn,p,op,rfl,hp,c _ _ (fun q=>n 0 _ _ op (by subst q;rfl)) hg⟩
theorem bH.afH (o:bH h0 h z l) {k:Nat} (hk:k<h0.nx):b6 z k:=by
 rcases o with ⟨rfl | ⟨p,rfl,h1,_⟩,rfl⟩ | ⟨_,p,op,rfl,hp,_⟩
 · exact fun _ _ _ _ e=>by cases e
 · exact fun _ _ _ _ e=>by have:=(AV.slice.inj e).1;omega
 · exact fun _ _ _ _ e=>by have:=(AV.slice.inj e).1;omega
theorem b6.slice {p o n c:Nat} {b:Bool} {i:Nat} (h:p≠i):b6 (.slice p o n c b) i:=fun _ _ _ _ e=>h (AV.slice.inj e).1
theorem bH.SK (y:Tidy h) (o:bH h0 h z l) {k:Nat} (hk:h.nx≤k):b6 z k:=by
 rcases o with ⟨rfl | ⟨p,rfl,h1,h2⟩,rfl⟩ | ⟨_,p,op,rfl,_,hg⟩
 · exact b6.nil k
 · have:=y _ _ h2;exact b6.sl o!
 · have:=y _ _ hg;exact b6.sl o!
theorem bH.wF (o:bH h0 h w l) (ap:Co z w) (kp:∀i x,b6 z i→h.get i=some x→h'.get i=some x):bH h0 h' w l:=by
 rcases o with ⟨rfl | ⟨p,rfl,h1,h2⟩,rfl⟩ | ⟨hn,p,op,rfl,hp,hg⟩
 · exact .inl ⟨.inl rfl,rfl⟩
 · exact .inl ⟨.inr ⟨p,rfl,h1,kp _ _ ((ap p).resolve_right fun q=>q _ _ _ _ rfl) h2⟩,rfl⟩
 · exact .inr ⟨hn,p,op,rfl,hp,kp _ _ ((ap p).resolve_right fun q=>q _ _ _ _ rfl) hg⟩
end
section
variable {α:Type} [aF α] {h0 h h':aA} {z z' w:AV} {l m:List α}
theorem bH.Cp {n:Nat} (o:bH h0 h z l) (v:AV.within h0.nx (n+1) z=true):bH h0 h0 z l:=by
 rcases o with ⟨rfl | ⟨p,rfl,h1,h2⟩,rfl⟩ | ⟨hn,p,op,rfl,hp,hg⟩
 · exact .inl ⟨.inl rfl,rfl⟩
 · have:=of_decide_eq_true (show decide (p<h0.nx)=true from v);omega
 · have:=of_decide_eq_true (show decide (p<h0.nx)=true from v);omega
theorem pD {nx k:Nat} {cs:List AV} (h:AV.within nx (k+1) (.tuple cs)=true) {x:AV} (hx:x∈cs):AV.within nx k x=true:=List.all_eq_true.1 h x hx
end
def e_ {σ ζ:Type} (call:bh) (b:Code) (s:St) (ex:iB) (hh:aA) (tn:σ→ζ→(Nat→AV)→List AV) (Qn:σ→ζ→aA→Prop) (v:σ):Prop:=
 ∃z y hk,Ev env call (.loop b) s ex ⟨tn v z y,hk,[],.no⟩∧Tidy hk∧hh.nx≤hk.nx∧Qn v z hk
section
variable {σ ζ:Type} {call:bh} {b:Code} {s:St} {ex:iB} {hh hk:aA} {tn:σ→ζ→(Nat→AV)→List AV} {Qn:σ→ζ→aA→Prop}
theorem e_.out {i:Nat} {L:List AV} {o:σ} (v:σ) (z:ζ) (e:o=v) (ev:Ev env call b s (.exit i) ⟨L,hk,[],.no⟩) (y1:Tidy hk) (n1:hh.nx≤hk.nx) (q:Qn v z hk) (hl:L=tn v z fun k=>L.getD k AV.undef):e_ call b s (.exit i) hh tn Qn o:=by
 subst e
 obtain ⟨y,x⟩:=xw (tmpl:=tn o z) (Ev.out ev) hl
 exact ⟨z,y,hk,x,y1,n1,q⟩
theorem e_.round {L:List AV} {o o':σ} (e:o=o') (ev:Ev env call b s .normal ⟨L,hk,[],.no⟩) (n1:hh.nx≤hk.nx) (s7:(Nat→AV)→List AV) (hl:L=s7 fun k=>L.getD k AV.undef) (ih:∀x,e_ call b ⟨s7 x,hk,[],.no⟩ ex hk tn Qn o'):e_ call b s ex hh tn Qn o:=by
 subst e
 have q:=ih fun k=>L.getD k AV.undef
 rw[←hl] at q
 obtain ⟨z,y,h2,x,y1,n2,g⟩:=q
 exact ⟨z,y,h2,Ev.loop ev x,y1,Nat.le_trans n1 n2,g⟩
end
def im {σ ζ:Type} (call:bh) (b:Code) (s:St) (ex:iB) (hh:aA) (tn:σ→ζ→(Nat→AV)→List AV) (Qn:σ→ζ→aA→Prop) (tr:(Nat→AV)→List AV) (Rn:aA→Prop) (v:Option σ):Prop:=
 match v with
 | some v=>e_ call b s ex hh tn Qn v
 | none=>∃y hk,Ev env call (.loop b) s .ret ⟨tr y,hk,[],.no⟩∧Tidy hk∧hh.nx≤hk.nx∧Rn hk
section
variable {σ ζ:Type} {call:bh} {b:Code} {s:St} {ex:iB} {hh hk:aA} {tn:σ→ζ→(Nat→AV)→List AV} {Qn:σ→ζ→aA→Prop} {tr:(Nat→AV)→List AV} {Rn:aA→Prop}
theorem im.out {i:Nat} {L:List AV} {o:Option σ} (v:σ) (z:ζ) (e:o=some v) (ev:Ev env call b s (.exit i) ⟨L,hk,[],.no⟩) (y1:Tidy hk) (n1:hh.nx≤hk.nx) (q:Qn v z hk) (hl:L=tn v z fun k=>L.getD k AV.undef):im call b s (.exit i) hh tn Qn tr Rn o:=by
 subst e;exact e_.out v z rfl ev y1 n1 q hl
theorem im.ret {L:List AV} {o:Option σ} (e:o=none) (ev:Ev env call b s .ret ⟨L,hk,[],.no⟩) (y1:Tidy hk) (n1:hh.nx≤hk.nx) (q:Rn hk) (hl:L=tr fun k=>L.getD k AV.undef):im call b s ex hh tn Qn tr Rn o:=by
 subst e
 obtain ⟨y,x⟩:=xw (tmpl:=tr) (Ev.ret ev) hl
 exact ⟨y,hk,x,y1,n1,q⟩
theorem im.round {L:List AV} {o o':Option σ} (e:o=o') (ev:Ev env call b s .normal ⟨L,hk,[],.no⟩) (n1:hh.nx≤hk.nx) (s7:(Nat→AV)→List AV) (hl:L=s7 fun k=>L.getD k AV.undef) (ih:∀x,im call b ⟨s7 x,hk,[],.no⟩ ex hk tn Qn tr Rn o'):im call b s ex hh tn Qn tr Rn o:=by
 subst e
 have q:=ih fun k=>L.getD k AV.undef
 rw[←hl] at q
 cases o with
 | some v=>
   obtain ⟨z,y,h2,x,y1,n2,g⟩:=q
   exact ⟨z,y,h2,Ev.loop ev x,y1,Nat.le_trans n1 n2,g⟩
 | none=>
   obtain ⟨y,h2,x,y1,n2,g⟩:=q
   exact ⟨y,h2,Ev.loop ev x,y1,Nat.le_trans n1 n2,g⟩
end
theorem e_.acU {σ ζ:Type} {call:bh} {b:Code} {s:St} {ex:iB} {hh:aA} {tn:σ→ζ→(Nat→AV)→List AV} {Qn Qn':σ→ζ→aA→Prop} {v:σ} (l:e_ call b s ex hh tn Qn v) (w:∀z hk,hh.nx≤hk.nx→Qn v z hk→Qn' v z hk):e_ call b s ex hh tn Qn' v:=by
 obtain ⟨z,y,hk,a,b1,c,q⟩:=l
 exact ⟨z,y,hk,a,b1,c,w z hk c q⟩
def th (rc:RC) {σ ζ:Type} (call:bh) (b:Code) (s:St) (ex:iB) (hh:aA) (tn:σ→ζ→(Nat→AV)→List AV) (Qn:σ→ζ→aA→Prop) (v:σ):Prop:=
 ∃z y hk,Ev env call (.loop b) s ex ⟨tn v z y,hk,[],rc⟩∧Tidy hk∧hh.nx≤hk.nx∧Qn v z hk
section
variable {rc:RC} {σ ζ:Type} {call:bh} {b:Code} {s:St} {ex:iB} {hh hk:aA} {tn:σ→ζ→(Nat→AV)→List AV} {Qn:σ→ζ→aA→Prop}
theorem th.out {i:Nat} {L:List AV} {o:σ} (v:σ) (z:ζ) (e:o=v) (ev:Ev env call b s (.exit i) ⟨L,hk,[],rc⟩) (y1:Tidy hk) (n1:hh.nx≤hk.nx) (q:Qn v z hk) (hl:L=tn v z fun k=>L.getD k AV.undef):th rc call b s (.exit i) hh tn Qn o:=by
 subst e
 refine ⟨z,fun k=>L.getD k AV.undef,hk,?_,y1,n1,q⟩
 rw[←hl];exact Ev.out ev
theorem th.round {L:List AV} {o o':σ} (e:o=o') (ev:Ev env call b s .normal ⟨L,hk,[],rc⟩) (n1:hh.nx≤hk.nx) (s7:(Nat→AV)→List AV) (hl:L=s7 fun k=>L.getD k AV.undef) (ih:∀x,th rc call b ⟨s7 x,hk,[],rc⟩ ex hk tn Qn o'):th rc call b s ex hh tn Qn o:=by
 subst e
 have q:=ih fun k=>L.getD k AV.undef
 rw[←hl] at q
 obtain ⟨z,y,h2,x,y1,n2,g⟩:=q
 exact ⟨z,y,h2,Ev.loop ev x,y1,Nat.le_trans n1 n2,g⟩
end
theorem pkc (rc:RC) (d:Nat) (c:Code) (ts:List AV) (h:aA) (e:iB) (h':aA) {al:List nh} {ps:List Prop} (k:Pk al [] ps) (hr:run env (cz d) 300 c ⟨ts,h,[],rc⟩ al []= .at e ⟨vf (run env (cz d) 300 c ⟨ts,h,[],rc⟩ al []),h',[],rc⟩ [] ps):Ev env (cz d) c ⟨ts,h,[],rc⟩ e ⟨vf (run env (cz d) 300 c ⟨ts,h,[],rc⟩ al []),h',[],rc⟩:=pk_ d c ts h [] rc e h' k hr
def EZ:Code:=(Try.f54.body).getD .skip
theorem aaa:Try.f54.body=some EZ:=by kernel_rfl
def SM:Code:=(cc EZ).getD 0 .skip
def gH (q:aD) (l_:List bC) (t:Int):Nat→Nat→Int→Int→Int×Int
 | 0,_,dA,dB=>(dA,dB)
 | dQ+1,i0,dA,dB=>gH q l_ t dQ (i0+1) (kH (⟨dA,dB⟩:Span) (cQ q (l_.g i0) t)).ay (kH (⟨dA,dB⟩:Span) (cQ q (l_.g i0) t)).aq
theorem E0 {d:Nat} {h:aA} (bJ:AV) (t:Int) (l_:List bC) (q:aD) (bL:Nat) (gI:Nat) (GY:Nat) (bF:aY h bJ l_) (eZ:q.name.length<2^60) (iy:aY h q.az q.aC) (kG:aF.ok h q) (nv:0<l_.length) (bS:Tidy h) (pU:h.nx≤bL) (WR:h.nx≤gI) (afI:h.nx≤GY) (LH:gI≠bL) (aab:GY≠bL) (aac:GY≠gI):∀(k_ i_:Nat) (dA:Int) (dB:Int) (_:i_+k_=l_.length) (x:Nat→AV) (hh:aA) (aQ:Tidy hh) (aW:Has h hh) (gQ:h.nx≤hh.nx) (bG:hh.get bL=some (aX.cells [(AV.str q.name),(Zi q.ai),(Zi q.af),(Zi q.aH),(Zi q.aI),(Zi q.bad),q.az] 26 false)) (o6:hh.get gI=some (aX.cells [(Zi 0),(Zi 0)] 23 false)) (GZ:hh.get GY=some (aX.cells [(Zi dA),(Zi dB)] 23 false)),e_ (σ:=Int×Int) (ζ:=Unit) (cz (d+1)) SM ⟨((x 0)::bJ::(Zi t)::(Pt bL)::(x 4)::(x 5)::(Pt gI)::(Pt GY)::(Zn i_)::rx x 9 22 []),hh,[],.no⟩ (.exit 0) hh (fun r z y=>((y 0)::bJ::(Zi t)::(Pt bL)::(y 4)::(y 5)::(Pt gI)::(Pt GY)::rx y 8 23 [])) (fun r z hk=>Has h hk∧hk.get bL=some (aX.cells [(AV.str q.name),(Zi q.ai),(Zi q.af),(Zi q.aH),(Zi q.aI),(Zi q.bad),q.az] 26 false)∧hk.get gI=some (aX.cells [(Zi 0),(Zi 0)] 23 false)∧hk.get GY=some (aX.cells [(Zi r.1),(Zi r.2)] 23 false)) (gH q l_ t k_ i_ dA dB)
 | 0,i0,dA,dB,kY,x,hh,aQ,aW,gQ,bG,o6,GZ=>by
   have eR:=bF.small
   have mK:=iy.small
   have pS:=aQ _ _ bG
   have aad:=aQ _ _ o6
   have afJ:=aQ _ _ GZ
   have ja:dy (some (.slice 77)) (some bJ)=some (Zn l_.length):=bF.len
   have q2:(decide (((i0:Nat):Int)<((l_.length:Nat):Int)))=false:=d!
   exact e_.out (dA,dB) () rfl (pk (d+1) _ _ hh _ hh (CN 2<|VV ja<|VV (bK 3 false false .i64 ((i0:Nat):Int) ((l_.length:Nat):Int))<|BB q2<|ZZ) k!) aQ o! ⟨aW,bG,o6,GZ⟩ k!
 | dQ+1,i0,dA,dB,kY,x,hh,aQ,aW,gQ,bG,o6,GZ=>by
   have eR:=bF.small
   have mK:=iy.small
   have pS:=aQ _ _ bG
   have aad:=aQ _ _ o6
   have afJ:=aQ _ _ GZ
   have ja:dy (some (.slice 77)) (some bJ)=some (Zn l_.length):=bF.len
   have q2:(decide (((i0:Nat):Int)<((l_.length:Nat):Int)))=true:=d!
   obtain ⟨p4,q5,jD⟩:=bF.elem (i:=i0) o!
   have tb:cK env (some (.slice 77)) (some bJ) (some (Zn i0))=some (AV.ptr p4 q5):=jD
   have qv:bk env hh 77 (AV.ptr p4 q5)=some (AV.agg [(Zi (l_.g i0).time),(Zi (l_.g i0).aw),(Zi (l_.g i0).ar)]):=(bF.has aW).load o! jD
   have k7:=Cl (d:=d) q (l_.g i0) t (aF.mono aW kG) trivial aQ
   have k8:=Jy (d:=d) (⟨dA,dB⟩:Span) (cQ q (l_.g i0) t) trivial trivial aQ
   obtain ⟨h9,LI,nM,SN,Cq,l7⟩:=rA (t:=23) (n:=2) (i:=GY) (L:=[(Zi (kH (⟨dA,dB⟩:Span) (cQ q (l_.g i0) t)).ay),(Zi (kH (⟨dA,dB⟩:Span) (cQ q (l_.g i0) t)).aq)]) aQ GZ k! rfl rfl (by simp only[AV.cells,List.all_cons,List.all_nil,Bool.and_true,Bool.and_self,eL,dw,eM,eN,cH,gZ,g_,hB,hD,hI,eO])
   have jM:Has h h9:=Has.cS aW l7 bS o!
   have zj:AV.same 20 (AV.agg [(Zi dA),(Zi dB)]) (AV.agg [(Zi dA),(Zi dB)])=true:=dM 18 (iC (fun n=>aJ n _ _) (iC (fun n=>aJ n _ _) DC))
   have c11:AV.same 20 (AV.agg [(AV.str q.name),(Zi q.ai),(Zi q.af),(Zi q.aH),(Zi q.aI),(Zi q.bad),q.az]) (AV.agg [(AV.str q.name),(Zi q.ai),(Zi q.af),(Zi q.aH),(Zi q.aI),(Zi q.bad),q.az])=true:=dM 18 (iC (fun n=>jS n _) (iC (fun n=>aJ n _ _) (iC (fun n=>aJ n _ _) (iC (fun n=>aJ n _ _) (iC (fun n=>aJ n _ _) (iC (fun n=>aJ n _ _) (iC iy.same DC)))))))
   have Px:AV.same 20 (AV.agg [(Zi (l_.g i0).time),(Zi (l_.g i0).aw),(Zi (l_.g i0).ar)]) (AV.agg [(Zi (l_.g i0).time),(Zi (l_.g i0).aw),(Zi (l_.g i0).ar)])=true:=dM 18 (iC (fun n=>aJ n _ _) (iC (fun n=>aJ n _ _) (iC (fun n=>aJ n _ _) DC)))
   have SO:=fu 3 false true i0 1 o!
   exact e_.round (by simp only[gH,ak,aj]) (pk (d+1) _ _ hh _ h9 (CN 2<|VV ja<|VV (bK 3 false false .i64 ((i0:Nat):Int) ((l_.length:Nat):Int))<|BM q2 (aO 23 0 (AV.agg [(Zi dA),(Zi dB)]) GZ k!)<|MM (aO 26 0 (AV.agg [(AV.str q.name),(Zi q.ai),(Zi q.af),(Zi q.aH),(Zi q.aI),(Zi q.bad),q.az]) bG k!)<|CN 2<|VV tb<|MM qv<|CC<|EE k7<|EE k8<|SS LI<|HH (aO 23 0 (AV.agg [(Zi dA),(Zi dB)]) GZ k!)<|HH zj<|HH (aO 23 0 (AV.agg [(Zi dA),(Zi dB)]) GZ k!)<|HH zj<|HH (aO 26 0 (AV.agg [(AV.str q.name),(Zi q.ai),(Zi q.af),(Zi q.aH),(Zi q.aI),(Zi q.bad),q.az]) bG k!)<|HH c11<|HH qv<|HH Px<|CC<|VV SO<|CC<|ZZ) k!) o! _ k! (fun x=>E0 bJ t l_ q bL gI GY bF eZ iy kG nv bS pU WR afI LH aab aac dQ (i0+1) (kH (⟨dA,dB⟩:Span) (cQ q (l_.g i0) t)).ay (kH (⟨dA,dB⟩:Span) (cQ q (l_.g i0) t)).aq o! x h9 nM jM o! (l7 _ _ o! bG) (l7 _ _ o! o6) Cq)
def mz (q:aD) (l_:List bC) (t:Int):Span:=(⟨(gH q l_ t (l_.length - 1) 1 (cQ q (l_.g 0) t).ay (cQ q (l_.g 0) t).aq).1,(gH q l_ t (l_.length - 1) 1 (cQ q (l_.g 0) t).ay (cQ q (l_.g 0) t).aq).2⟩:Span)
theorem aae {d:Nat} {h:aA} {bJ:AV} (q:aD) (l_:List bC) (t:Int) (fB:aF.ok h q) (dR:aY h bJ l_) (pV:0<l_.length) (bS:Tidy h):cz (d+2) (.fn 54) [(AV.agg [(AV.str q.name),(Zi q.ai),(Zi q.af),(Zi q.aH),(Zi q.aI),(Zi q.bad),q.az]),bJ,(Zi t)] h= .ret (AV.agg [(Zi (mz q l_ t).ay),(Zi (mz q l_ t).aq)]) h:=by
 have mL:=dR.small
 have hU:=fB.2.small
 obtain ⟨h1,cj,cg,iu,bf,cf⟩:=fY bS (aX.cells [(AV.str q.name),(Zi q.ai),(Zi q.af),(Zi q.aH),(Zi q.aI),(Zi q.bad),q.az] 26 false)
 have bA:Has h h1:=cf
 obtain ⟨h2,iw,eQ,te,cO,dg⟩:=fY cg (aX.cells [(Zi 0),(Zi 0)] 23 false)
 have dZ:Has h h2:=bA.trans dg
 obtain ⟨p4,q5,jD⟩:=dR.elem (i:=0) o!
 have tb:cK env (some (.slice 77)) (some bJ) (some (Zi 0))=some (AV.ptr p4 q5):=jD
 have qv:bk env h2 77 (AV.ptr p4 q5)=some (AV.agg [(Zi (l_.g 0).time),(Zi (l_.g 0).aw),(Zi (l_.g 0).ar)]):=(dR.has dZ).load o! jD
 obtain ⟨h7,afK,mM,Py,pW,WS⟩:=fY eQ (aX.cells [(Zi 0),(Zi 0)] 23 false)
 have lL:Has h h7:=dZ.trans WS
 have k8:=Cl (d:=d) q (l_.g 0) t (aF.mono lL fB) trivial mM
 obtain ⟨h9,LI,nM,SN,Cq,l7⟩:=rA (t:=23) (n:=2) (i:=h2.nx) (L:=[(Zi (cQ q (l_.g 0) t).ay),(Zi (cQ q (l_.g 0) t).aq)]) mM pW k! rfl rfl (by simp only[AV.cells,List.all_cons,List.all_nil,Bool.and_true,Bool.and_self,eL,dw,eM,eN,cH,gZ,g_,hB,hD,hI,eO])
 have jM:Has h h9:=Has.cS lL l7 bS o!
 have zj:AV.same 20 (AV.agg [(AV.str q.name),(Zi q.ai),(Zi q.af),(Zi q.aH),(Zi q.aI),(Zi q.bad),q.az]) (AV.agg [(AV.str q.name),(Zi q.ai),(Zi q.af),(Zi q.aH),(Zi q.aI),(Zi q.bad),q.az])=true:=dM 18 (iC (fun n=>jS n _) (iC (fun n=>aJ n _ _) (iC (fun n=>aJ n _ _) (iC (fun n=>aJ n _ _) (iC (fun n=>aJ n _ _) (iC (fun n=>aJ n _ _) (iC fB.2.same DC)))))))
 have c11:AV.same 20 (AV.agg [(Zi (l_.g 0).time),(Zi (l_.g 0).aw),(Zi (l_.g 0).ar)]) (AV.agg [(Zi (l_.g 0).time),(Zi (l_.g 0).aw),(Zi (l_.g 0).ar)])=true:=dM 18 (iC (fun n=>aJ n _ _) (iC (fun n=>aJ n _ _) (iC (fun n=>aJ n _ _) DC)))
 obtain ⟨_,afL,pX,G6,pE,SP,LJ,NC,WT,WU⟩:=E0 (d:=d) (h:=h) bJ t l_ q h.nx h1.nx h2.nx dR fB.1 fB.2 fB o! bS o! o! o! o! o! o! (l_.length - 1) 1 (cQ q (l_.g 0) t).ay (cQ q (l_.g 0) t).aq o! (fun k_=>(((AV.agg [(AV.str q.name),(Zi q.ai),(Zi q.af),(Zi q.aH),(Zi q.aI),(Zi q.bad),q.az])::bJ::(Zi t)::(Pt h.nx)::AV.undef::AV.undef::(Pt h1.nx)::(Pt h2.nx)::(Zi 1)::(AV.agg [(AV.str q.name),(Zi q.ai),(Zi q.af),(Zi q.aH),(Zi q.aI),(Zi q.bad),q.az])::bJ::(AV.ptr p4 q5)::(AV.agg [(Zi (l_.g 0).time),(Zi (l_.g 0).aw),(Zi (l_.g 0).ar)])::(Zi t)::(AV.agg [(Zi (cQ q (l_.g 0) t).ay),(Zi (cQ q (l_.g 0) t).aq)])::iL 16):List AV).getD k_ AV.undef) h9 nM jM o! (l7 _ _ o! (WS _ _ (dg _ _ bf))) (l7 _ _ o! (WS _ _ cO)) Cq
 have ma:Has h pX:=LJ
 obtain ⟨G7,SQ,ti,Yg,JB,vS⟩:=rA (t:=23) (n:=2) (i:=h1.nx) (L:=[(Zi (gH q l_ t (l_.length - 1) 1 (cQ q (l_.g 0) t).ay (cQ q (l_.g 0) t).aq).1),(Zi (gH q l_ t (l_.length - 1) 1 (cQ q (l_.g 0) t).ay (cQ q (l_.g 0) t).aq).2)]) pE WT k! rfl rfl (by simp only[AV.cells,List.all_cons,List.all_nil,Bool.and_true,Bool.and_self,eL,dw,eM,eN,cH,gZ,g_,hB,hD,hI,eO])
 have Cr:Has h G7:=Has.cS ma vS bS o!
 have e:mz q l_ t=(⟨(gH q l_ t (l_.length - 1) 1 (cQ q (l_.g 0) t).ay (cQ q (l_.g 0) t).aq).1,(gH q l_ t (l_.length - 1) 1 (cQ q (l_.g 0) t).ay (cQ q (l_.g 0) t).aq).2⟩:Span):=by simp only[mz,ak,aj]
 rw[e]
 exact aE rfl (hS (a:=6) (t:=23) (i:=h1.nx) Try.func54 aaa rfl (.inr rfl) (pk (d+1) _ _ h _ G7 (NN cj (fun i=>(Pt i))<|NN iw (fun i=>(Pt i))<|MM (aO 26 0 (AV.agg [(AV.str q.name),(Zi q.ai),(Zi q.af),(Zi q.aH),(Zi q.aI),(Zi q.bad),q.az]) (dg _ _ bf) k!)<|CC<|VV tb<|MM qv<|CC<|NN afK (fun i=>(Pt i))<|EE k8<|SS LI<|HH (aO 26 0 (AV.agg [(AV.str q.name),(Zi q.ai),(Zi q.af),(Zi q.aH),(Zi q.aI),(Zi q.bad),q.az]) (WS _ _ (dg _ _ bf)) k!)<|HH zj<|HH (show bk env h7 77 (AV.ptr p4 q5)=some (AV.agg [(Zi (l_.g 0).time),(Zi (l_.g 0).aw),(Zi (l_.g 0).ar)]) from ((dR.has lL).load o! jD))<|HH c11<|HH (show ∃o,h7.get h2.nx=some o∧aX.same o (aX.cells [(Zi 0),(Zi 0)] 23 false)=true from ⟨_,pW,by simp [aX.same,da,AV.same]⟩)<|HH (show ∃o,h7.get h2.nx=some o∧aX.same o (aX.cells [(Zi 0),(Zi 0)] 23 false)=true from ⟨_,pW,by simp [aX.same,da,AV.same]⟩)<|CC<|LL G6<|MM (aO 23 0 (AV.agg [(Zi (gH q l_ t (l_.length - 1) 1 (cQ q (l_.g 0) t).ay (cQ q (l_.g 0) t).aq).1),(Zi (gH q l_ t (l_.length - 1) 1 (cQ q (l_.g 0) t).ay (cQ q (l_.g 0) t).aq).2)]) WU k!)<|SS SQ<|ZZ) k!) k! (kN JB k!)) Cr rfl
end
end Go.Proofs.aG
