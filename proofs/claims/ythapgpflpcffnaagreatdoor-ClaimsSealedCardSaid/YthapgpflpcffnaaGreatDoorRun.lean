/-
  PROVED: underpinlaw09.ClaimsSealed returns true at any arguments, and its arguments read behind the call as they read before.
  CONDITIONS: those of the given card alone: the tables of Go's library that the row lists hold what the program's text lays in them (the card ties them). No condition beside.
  HOW: a deterministic evaluator of the program's text is proved sound once; each function's text is run by it over open values and comes to a definition in Lean that was read off the text; that the program's and the specification's definitions are equal is proved by induction.
-/
import Derived.Test.YthapgpflpcffnaaGreatDoorRows
import Derived.ProofKit
import Derived.OpenShut
import Derived.SizedLaws
import Derived.Test.YthapgpflpcffnaaGreatDoorCards
import Derived.Test.YthapgpflpcffnaaGreatDoorTie
import Derived.LaidMore
import Derived.Lay
import Derived.SevenTiedAt
import Derived.Stop.Joined
import Derived.Test.YthapgpflpcffnaaGreatDoorFacts
import Derived.Test.YthapgpflpcffnaaGreatDoorLive
import Derived.Test.YthapgpflpcffnaaGreatDoorW7
namespace Go.Proofs.YthapgpflpcffnaaGreatDoor
open Go.ChangeShapes Go.WideShapes Go.ChangeAt Go.RowKit Ab Go.Proofs.aP
theorem own:ownKnob Tryz.prog.godebug=none:=by kernel_rfl
theorem params3:Tryz.f3.params.toList=[22,3,3,3]:=by kernel_rfl
theorem Bn:Tryz.f3.params= #[22,3,3,3]:=by kernel_rfl
theorem FD:∀t∈ [22,3,3,3],Tryz.prog.readableRec t=true∧t<Tryz.prog.types.size:=fun t ht=>by
 simp only[List.mem_cons,List.not_mem_nil,or_false] at ht
 rcases ht with rfl | rfl | rfl | rfl
 · exact ⟨by kernel_rfl,of_decide_eq_true (by kernel_rfl)⟩
 · exact ⟨by kernel_rfl,of_decide_eq_true (by kernel_rfl)⟩
 · exact ⟨by kernel_rfl,of_decide_eq_true (by kernel_rfl)⟩
 · exact ⟨by kernel_rfl,of_decide_eq_true (by kernel_rfl)⟩
set_option maxRecDepth 100000 in
theorem Pg {W:World} (h:laidMetH Tryz.prog Rows.claimsSealedRow.laid W):Ab.HF W gF:=by
 rw[MakeChecks.laidMetH_plain _ _ _ (by kernel_rfl)] at h
 obtain ⟨ps,⟨g0,t0,cs0,f0,p0,q0,wq,ht0,hv0,hd0,⟨g1,t1,cs1,f1,p1,q1,Uh,ht1,PW,Wx,⟨g2,t2,cs2,f2,p2,q2,S8,ht2,Ey,NJ,_,_⟩,_⟩,_⟩,_,_⟩:=h
 obtain rfl:=Option.some.inj ((show Tryz.prog.globalNamed _=some 1 by kernel_rfl).symm.trans S8)
 obtain rfl:=Option.some.inj ((show (Tryz.prog.globals[1]?).map (·.type)=some 236 by kernel_rfl).symm.trans ht2)
 exact Ab.Ao S8 Ey (ns:=gF.ns) Tryz.underlying236 Tryz.underlying54 (by kernel_rfl) (by kernel_rfl) NJ rfl _
theorem Pj:Tidy (fe 8 [gF]):=fun i o h=>by
 obtain ⟨x,hx,rfl,_⟩:=kG h
 have:x=gF:=by simpa using hx
 subst this
 rw[m5];decide
theorem Sz:(fe 8 [gF]).get 1=some (.cells (aO .u64 eF) 236 true):=by
 rw[fe,show gF.g=1 from rfl,ah.bx];rfl
theorem FE {H:Type} {enc:TypeId×Value→H} {W:World} {base:Nat} {spare:Nat→Bool} {held:Bool} {t0 t1 t2 t3:TypeId} {args:Array Value} {ds:List (DataW H)} {ps:List MemPlace} (h:DataW.TrodAll enc Tryz.prog W base spare held [t0,t1,t2,t3] args.toList ds ps):
 ∃v0 v1 v2 v3 d0 d1 d2 d3 p0 p1 p2 p3,args= #[v0,v1,v2,v3]∧ds=[d0,d1,d2,d3]∧DataW.Trod enc Tryz.prog W base spare held t0 v0 d0 p0∧DataW.Trod enc Tryz.prog W base spare held t1 v1 d1 p1∧DataW.Trod enc Tryz.prog W base spare held t2 v2 d2 p2∧DataW.Trod enc Tryz.prog W base spare held t3 v3 d3 p3:=by
 obtain ⟨v0,w0,d0,e0,p0,q0,a0,rfl,rfl,h0,r0⟩:=trodAll_cons h
 obtain ⟨v1,w1,d1,e1,p1,q1,a1,rfl,rfl,h1,r1⟩:=trodAll_cons r0
 obtain ⟨v2,w2,d2,e2,p2,q2,a2,rfl,rfl,h2,r2⟩:=trodAll_cons r1
 obtain ⟨v3,w3,d3,e3,p3,q3,a3,rfl,rfl,h3,r3⟩:=trodAll_cons r2
 obtain ⟨rfl,rfl,rfl⟩:=trodAll_nil r3
 subst a3
 subst a2
 subst a1
 exact ⟨v0,v1,v2,v3,d0,d1,d2,d3,p0,p1,p2,p3,by cases args;simp_all,rfl,h0,h1,h2,h3⟩
set_option maxRecDepth 100000
theorem SA {H:Type} {enc:TypeId×Value→H} {W:World} {v0 v1 v2 v3:Value} {d0 d1 d2 d3:DataW H} {p0 p1 p2 p3:List MemPlace} {r:Reach} {b0:Nat} (k0:Value.okWide Tryz.prog W r b0 22 v0) (k1:Value.okWide Tryz.prog W r b0 3 v1) (k2:Value.okWide Tryz.prog W r b0 3 v2) (k3:Value.okWide Tryz.prog W r b0 3 v3) (s0:Small 22 d0) (s1:Small 3 d1) (s2:Small 3 d2) (s3:Small 3 d3) (h0:DataW.Trod enc Tryz.prog W 0 (fun _=>true) true 22 v0 d0 p0) (h1:DataW.Trod enc Tryz.prog W 0 (fun _=>true) true 3 v1 d1 p1) (h2:DataW.Trod enc Tryz.prog W 0 (fun _=>true) true 3 v2 d2 p2) (h3:DataW.Trod enc Tryz.prog W 0 (fun _=>true) true 3 v3 d3 p3) (hL:laidMetH Tryz.prog Rows.claimsSealedRow.laid W):
 Calls Tryz.prog 3 #[v0,v1,v2,v3] W fun en w'=>en= .returned (.bool true)∧W.keptBut w' (fun _=>False):=by
 obtain ⟨a0,b0,c0,rfl⟩:=okWide_slice Tryz.underlying22 k0
 obtain ⟨f0,h0⟩:=h0
 obtain ⟨a1,rfl⟩:=okWide_int Tryz.underlying3 k1
 obtain ⟨f1,h1⟩:=h1
 obtain ⟨a2,rfl⟩:=okWide_int Tryz.underlying3 k2
 obtain ⟨f2,h2⟩:=h2
 obtain ⟨a3,rfl⟩:=okWide_int Tryz.underlying3 k3
 obtain ⟨f3,h3⟩:=h3
 have ht:=Pg hL
 have ok:OK env (MP 8) (fe 8 [gF]) W:=OK.begin (E:=env) fun x hx=>by
  have:x=gF:=by simpa using hx
  subst this
  exact ⟨by decide,ht⟩
 have G:Gx (MP 8) (MP 8) (fe 8 [gF]) (fe 8 [gF]) W:=Gx.refl ok oV.begin Pj
 obtain ⟨φ0,m0,x0,g0,l0,o0⟩:=Mk (enc:=enc) (w:=W) (base:=0) (spare:=fun _=>true) (held:=true) _ _ G.ok G.ro G.tidy [_] _ f0 rfl s0 h0
 have G0:=Gx.trans G g0
 obtain ⟨φ1,m1,x1,g1,l1,o1⟩:=ka (enc:=enc) (w:=W) (base:=0) (spare:=fun _=>true) (held:=true) (t:=3) Tryz.underlying3 _ _ G0.ok G0.ro G0.tidy [_] _ f1 rfl s1 h1
 have G1:=Gx.trans G0 g1
 obtain ⟨φ2,m2,x2,g2,l2,o2⟩:=ka (enc:=enc) (w:=W) (base:=0) (spare:=fun _=>true) (held:=true) (t:=3) Tryz.underlying3 _ _ G1.ok G1.ro G1.tidy [_] _ f2 rfl s2 h2
 have G2:=Gx.trans G1 g2
 obtain ⟨φ3,m3,x3,g3,l3,o3⟩:=ka (enc:=enc) (w:=W) (base:=0) (spare:=fun _=>true) (held:=true) (t:=3) Tryz.underlying3 _ _ G2.ok G2.ro G2.tidy [_] _ f3 rfl s3 h3
 have G3:=Gx.trans G2 g3
 have L0:=LR.mono (Ph.le_trans (Ph.le_trans (Ph.le_trans (Ph.le_refl _) g1.le) g2.le) g3.le) l0
 have L1:=LR.mono (Ph.le_trans (Ph.le_trans (Ph.le_refl _) g2.le) g3.le) l1
 have L2:=LR.mono (Ph.le_trans (Ph.le_refl _) g3.le) l2
 have L3:=LR.mono (Ph.le_refl _) l3
 have rr:=AA H2 QY (qz (d:=0) (h:=m3) x0.2 x1 x2 x3 (o0.has ((((Has.refl _).trans g1.has).trans g2.has).trans g3.has)) ((((g0.has.trans g1.has).trans g2.has).trans g3.has) _ _ Sz) G3.tidy)
 rw[pL] at rr
 exact ye rr G3.ok (vs:=[_,_,_,_]) (LR.cons (L0.2 0 _ _ rfl rfl) (LR.cons (L1.2 0 _ _ rfl rfl) (LR.cons (L2.2 0 _ _ rfl rfl) (LR.cons (L3.2 0 _ _ rfl rfl) (LR.nil _))))) G3.ro
set_option maxRecDepth 100000 in
theorem lifted (os:Os) (started:os.Started) (H:Type) (enc:TypeId×Value→H):
 ReturnsInHanded {} Tryz.checked os 3 .any (fun w args=>(Rows.claimsSealedSpec.pre enc Tryz.prog Tryz.f3 [] false w args∧laidMetH Tryz.prog Rows.claimsSealedRow.laid w)∧sizedMet enc Tryz.prog Tryz.f3 (OpenSpec.ofChange Rows.claimsSealedSpec) false w args)
  (Rows.claimsSealedSpec.post enc Tryz.prog Tryz.f3 false true false false):=by
 refine returnsInHanded_of_change_and (C:=Tryz.checked) (X:=fun w _=>laidMetH Tryz.prog Rows.claimsSealedRow.laid w) (fun _ _ _ hh h=>h.of_heap hh) own started (by kernel_rfl) Tryz.func3
  (ChangeSpec.witness_shaped (enc:=enc) (C:=Tryz.checked) (os:=os) (X:=fun w _=>laidMetH Tryz.prog Rows.claimsSealedRow.laid w) false (World.laidAll Tryz.prog os Rows.claimsSealedRow.laid) #[.slice none 0 0,.int .i64 0,.int .i64 0,.int .i64 0] 8 (World.laidAll_os _ _ _)
   (World.shaped_of_ZipB (by kernel_rfl) (by kernel_rfl)) (by kernel_rfl) (by kernel_rfl) (by kernel_rfl)
   (by rw[MakeChecks.laidMetH_plain _ _ _ (by kernel_rfl)];exact laidMet_laidAll _ (by kernel_rfl) (by kernel_rfl))) ?_
 intro W base args ds gs before SB hW Ga hwt hL _
 have JN:∀(j:Nat) t v,Tryz.f3.params[j]? =some t→args[j]? =some v→Value.okWide Tryz.prog W .any base t v:=SB
 have hW':=hW
 obtain ⟨p,q,hA0,hV,rfl,_,_⟩:=hW
 have hA:DataW.TrodAll enc Tryz.prog W 0 (fun _=>true) true Tryz.f3.params.toList args.toList ds p:=hA0
 have Pl:(DataW.weightsEach Tryz.prog (Tryz.f3.params.toList++[]) (ds++gs)).all (· ≤reachBytes)=true:=hwt
 rw[params3] at hA Pl
 rw[Bn] at JN
 obtain ⟨rfl,rfl⟩:=trodVars_none hV
 obtain ⟨v0,v1,v2,v3,d0,d1,d2,d3,p0,p1,p2,p3,rfl,rfl,h0,h1,h2,h3⟩:=FE hA
 have s0:=(Small.bw (ts:=[3,3,3]) Pl).1
 have u0:=(Small.bw (ts:=[3,3,3]) Pl).2
 have s1:=(Small.bw (ts:=[3,3]) u0).1
 have u1:=(Small.bw (ts:=[3,3]) u0).2
 have s2:=(Small.bw (ts:=[3]) u1).1
 have u2:=(Small.bw (ts:=[3]) u1).2
 have s3:=(Small.bw (ts:=[]) u2).1
 have u3:=(Small.bw (ts:=[]) u2).2
 refine (SA (JN 0 22 v0 rfl rfl) (JN 1 3 v1 rfl rfl) (JN 2 3 v2 rfl rfl) (JN 3 3 v3 rfl rfl) s0 s1 s2 s3 h0 h1 h2 h3 hL).mono fun e W' ⟨he,hk⟩=>?_
 subst he
 refine ⟨_,rfl,[d0,d1,d2,d3],[],_,[],p,[],hW',trodAll_mk1 (shut_bool Tryz.underlying4 _),?_,rfl,World.keptBut_mono (fun _ h=>h.elim) hk,fun h=>by cases h⟩
 have:=Ab.v8 k2 hk FD hA
 rw[←params3] at this
 exact this
theorem FH:Rows.ClaimsSealedSaid:=
 OpenClaim.holds_of_wide 3 Tryz.f3 rfl rfl rfl rfl rfl rfl rfl ⟨rfl,rfl,rfl,rfl,rfl⟩ rfl rfl rfl rfl rfl Oe Tryz.func3 closed
  (of_decide_eq_true (by kernel_rfl)) (by unfold Func.isWrapper;first | (rw[if_pos (by decide+kernel)];kernel_rfl) | (rw[if_neg (by decide+kernel)];exact ⟨rfl,rfl⟩))
  (fun os started H enc _=>lifted os started H enc)
theorem Mm:Tryz.prog.wantsStandIn 22=false:=by kernel_rfl
theorem CX:Tryz.prog.wantsStandIn 3=false:=by kernel_rfl
theorem oc:Rows.ClaimsSealedCardSaid:=
 Claim7.holds_tied_plain_at .later [] [.data,.data,.data,.data,.sentinel,.sentinel,.pinned] true (true, "7a43b3b4de713a9944d235a80d144ccda552755dd8d86288da42cc061cb60ad8") true
  FH (fun _ h=>by cases h) (by kernel_rfl) (fun _ h=>by cases h) claimsSealed_row_tie rfl ⟨rfl,rfl⟩ (by kernel_rfl) rfl
  (fun f fn hf vd=>by
   obtain rfl:f=3:=Option.some.inj ((show Tryz.prog.funcNamed _=some 3 by kernel_rfl).symm.trans hf)|>.symm
   obtain rfl:fn=Tryz.f3:=(Option.some.inj (Tryz.func3.symm.trans vd)).symm
   exact ⟨by kernel_rfl,fun j t ht=>by
    rw[Bn] at ht
    have hm:t∈ [22,3,3,3]:=by rw[show ([22,3,3,3]:List TypeId)=(#[22,3,3,3]:Array TypeId).toList from rfl];exact Array.mem_toList_iff.2 (Array.mem_of_getElem? ht)
    simp only[List.mem_cons,List.not_mem_nil,or_false] at hm
    rcases hm with rfl | rfl | rfl | rfl
    · exact Mm
    · exact CX
    · exact CX
    · exact CX⟩)
  (by kernel_rfl)
#print axioms oc
end Go.Proofs.YthapgpflpcffnaaGreatDoor
