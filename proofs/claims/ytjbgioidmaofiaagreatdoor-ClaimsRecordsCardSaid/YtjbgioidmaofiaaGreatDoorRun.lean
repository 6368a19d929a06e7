/-
  PROVED: underpinlaw09.ClaimsRecords returns true at any arguments, and its arguments read behind the call as they read before.
  CONDITIONS: those of the given card alone: the tables of Go's library that the row lists hold what the program's text lays in them (the card ties them). No condition beside.
  HOW: a deterministic evaluator of the program's text is proved sound once; each function's text is run by it over open values and comes to a definition in Lean that was read off the text; that the program's and the specification's definitions are equal is proved by induction.
-/
import Derived.Test.YtjbgioidmaofiaaGreatDoorRows
import Derived.ProofKit
import Derived.OpenShut
import Derived.SizedLaws
import Derived.Test.YtjbgioidmaofiaaGreatDoorCards
import Derived.Test.YtjbgioidmaofiaaGreatDoorTie
import Derived.LaidMore
import Derived.Lay
import Derived.SevenTiedAt
import Derived.Stop.Joined
import Derived.Test.YtjbgioidmaofiaaGreatDoorFacts
import Derived.Test.YtjbgioidmaofiaaGreatDoorLive
import Derived.Test.YtjbgioidmaofiaaGreatDoorW9
namespace Go.Proofs.YtjbgioidmaofiaaGreatDoor
open Go.ChangeShapes Go.WideShapes Go.ChangeAt Go.RowKit Ab Go.Proofs.aA
theorem own:ownKnob Tryz.prog.godebug=none:=by kernel_rfl
theorem params3:Tryz.f3.params.toList=[22,22,23]:=by kernel_rfl
theorem EJ:Tryz.f3.params= #[22,22,23]:=by kernel_rfl
theorem Jr:∀t∈ [22,22,23],Tryz.prog.readableRec t=true∧t<Tryz.prog.types.size:=fun t ht=>by
 simp only[List.mem_cons,List.not_mem_nil,or_false] at ht
 rcases ht with rfl | rfl | rfl
 · exact ⟨by kernel_rfl,of_decide_eq_true (by kernel_rfl)⟩
 · exact ⟨by kernel_rfl,of_decide_eq_true (by kernel_rfl)⟩
 · exact ⟨by kernel_rfl,of_decide_eq_true (by kernel_rfl)⟩
set_option maxRecDepth 100000 in
theorem Uw {W:World} (h:laidMetH Tryz.prog Rows.claimsRecordsRow.laid W):Ab.Lf W ja:=by
 rw[MakeChecks.laidMetH_plain _ _ _ (by kernel_rfl)] at h
 obtain ⟨ps,⟨g0,t0,cs0,f0,p0,q0,zB,ht0,hv0,hd0,⟨g1,t1,cs1,f1,p1,q1,Z1,ht1,Ou,hd1,⟨g2,t2,cs2,f2,p2,q2,Rf,ht2,It,SE,_,_⟩,_⟩,_⟩,_,_⟩:=h
 obtain rfl:=Option.some.inj ((show Tryz.prog.globalNamed _=some 0 by kernel_rfl).symm.trans Rf)
 obtain rfl:=Option.some.inj ((show (Tryz.prog.globals[0]?).map (·.type)=some 230 by kernel_rfl).symm.trans ht2)
 exact Ab.Dj Rf It (ns:=ja.ns) Tryz.underlying230 Tryz.underlying73 (by kernel_rfl) (by kernel_rfl) SE rfl _
theorem Ux:Tidy (g_ 8 [ja]):=fun i o h=>by
 obtain ⟨x,hx,rfl,_⟩:=mY h
 have:x=ja:=by simpa using hx
 subst this
 rw[pJ];decide
theorem X':(g_ 8 [ja]).get 0=some (.cells (aJ .u64 fL) 230 true):=by
 rw[g_,show ja.g=0 from rfl,ag.bu];rfl
theorem Js {H:Type} {enc:TypeId×Value→H} {W:World} {base:Nat} {spare:Nat→Bool} {held:Bool} {t0 t1 t2:TypeId} {args:Array Value} {ds:List (DataW H)} {ps:List MemPlace} (h:DataW.TrodAll enc Tryz.prog W base spare held [t0,t1,t2] args.toList ds ps):
 ∃v0 v1 v2 d0 d1 d2 p0 p1 p2,args= #[v0,v1,v2]∧ds=[d0,d1,d2]∧DataW.Trod enc Tryz.prog W base spare held t0 v0 d0 p0∧DataW.Trod enc Tryz.prog W base spare held t1 v1 d1 p1∧DataW.Trod enc Tryz.prog W base spare held t2 v2 d2 p2:=by
 obtain ⟨v0,w0,d0,e0,p0,q0,a0,rfl,rfl,h0,r0⟩:=trodAll_cons h
 obtain ⟨v1,w1,d1,e1,p1,q1,a1,rfl,rfl,h1,r1⟩:=trodAll_cons r0
 obtain ⟨v2,w2,d2,e2,p2,q2,a2,rfl,rfl,h2,r2⟩:=trodAll_cons r1
 obtain ⟨rfl,rfl,rfl⟩:=trodAll_nil r2
 subst a2
 subst a1
 exact ⟨v0,v1,v2,d0,d1,d2,p0,p1,p2,by cases args;simp_all,rfl,h0,h1,h2⟩
set_option maxRecDepth 100000
theorem Ya {H:Type} {enc:TypeId×Value→H} {W:World} {v0 v1 v2:Value} {d0 d1 d2:DataW H} {p0 p1 p2:List MemPlace} {r:Reach} {b0:Nat} (k0:Value.okWide Tryz.prog W r b0 22 v0) (k1:Value.okWide Tryz.prog W r b0 22 v1) (k2:Value.okWide Tryz.prog W r b0 23 v2) (s0:Small 22 d0) (s1:Small 22 d1) (s2:Small 23 d2) (h0:DataW.Trod enc Tryz.prog W 0 (fun _=>true) true 22 v0 d0 p0) (h1:DataW.Trod enc Tryz.prog W 0 (fun _=>true) true 22 v1 d1 p1) (h2:DataW.Trod enc Tryz.prog W 0 (fun _=>true) true 23 v2 d2 p2) (hL:laidMetH Tryz.prog Rows.claimsRecordsRow.laid W):
 Calls Tryz.prog 3 #[v0,v1,v2] W fun en w'=>en= .returned (.bool true)∧W.keptBut w' (fun _=>False):=by
 obtain ⟨a0,b0,c0,rfl⟩:=okWide_slice Tryz.underlying22 k0
 obtain ⟨f0,h0⟩:=h0
 obtain ⟨a1,b1,c1,rfl⟩:=okWide_slice Tryz.underlying22 k1
 obtain ⟨f1,h1⟩:=h1
 obtain ⟨a2,b2,c2,rfl⟩:=okWide_slice Tryz.underlying23 k2
 obtain ⟨f2,h2⟩:=h2
 have ht:=Uw hL
 have ok:OK env (Rj 8) (g_ 8 [ja]) W:=OK.begin (E:=env) fun x hx=>by
  have:x=ja:=by simpa using hx
  subst this
  exact ⟨by decide,ht⟩
 have G:Gx (Rj 8) (Rj 8) (g_ 8 [ja]) (g_ 8 [ja]) W:=Gx.refl ok rL.begin Ux
 obtain ⟨φ0,m0,x0,g0,l0,o0⟩:=H8 (enc:=enc) (w:=W) (base:=0) (spare:=fun _=>true) (held:=true) _ _ G.ok G.ro G.tidy [_] _ f0 rfl s0 h0
 have G0:=Gx.trans G g0
 obtain ⟨φ1,m1,x1,g1,l1,o1⟩:=H8 (enc:=enc) (w:=W) (base:=0) (spare:=fun _=>true) (held:=true) _ _ G0.ok G0.ro G0.tidy [_] _ f1 rfl s1 h1
 have G1:=Gx.trans G0 g1
 obtain ⟨φ2,m2,x2,g2,l2,o2⟩:=QN (enc:=enc) (w:=W) (base:=0) (spare:=fun _=>true) (held:=true) _ _ G1.ok G1.ro G1.tidy [_] _ f2 rfl s2 h2
 have G2:=Gx.trans G1 g2
 have L0:=LR.mono (Ph.le_trans (Ph.le_trans (Ph.le_refl _) g1.le) g2.le) l0
 have L1:=LR.mono (Ph.le_trans (Ph.le_refl _) g2.le) l1
 have L2:=LR.mono (Ph.le_refl _) l2
 have rr:=Dz LI Wb (QH (d:=0) (h:=m2) x0.2 x1.2 x2.2 (o0.has (((Has.refl _).trans g1.has).trans g2.has)) (o1.has ((Has.refl _).trans g2.has)) (o2.has (Has.refl _)) (((g0.has.trans g1.has).trans g2.has) _ _ X') G2.tidy)
 rw[NZ] at rr
 exact A9 rr G2.ok (vs:=[_,_,_]) (LR.cons (L0.2 0 _ _ rfl rfl) (LR.cons (L1.2 0 _ _ rfl rfl) (LR.cons (L2.2 0 _ _ rfl rfl) (LR.nil _)))) G2.ro
set_option maxRecDepth 100000 in
theorem lifted (os:Os) (started:os.Started) (H:Type) (enc:TypeId×Value→H):
 ReturnsInHanded {} Tryz.checked os 3 .any (fun w args=>(Rows.claimsRecordsSpec.pre enc Tryz.prog Tryz.f3 [] false w args∧laidMetH Tryz.prog Rows.claimsRecordsRow.laid w)∧sizedMet enc Tryz.prog Tryz.f3 (OpenSpec.ofChange Rows.claimsRecordsSpec) false w args)
  (Rows.claimsRecordsSpec.post enc Tryz.prog Tryz.f3 false true false false):=by
 refine returnsInHanded_of_change_and (C:=Tryz.checked) (X:=fun w _=>laidMetH Tryz.prog Rows.claimsRecordsRow.laid w) (fun _ _ _ hh h=>h.of_heap hh) own started (by kernel_rfl) Tryz.func3
  (ChangeSpec.witness_shaped (enc:=enc) (C:=Tryz.checked) (os:=os) (X:=fun w _=>laidMetH Tryz.prog Rows.claimsRecordsRow.laid w) false (World.laidAll Tryz.prog os Rows.claimsRecordsRow.laid) #[.slice none 0 0,.slice none 0 0,.slice none 0 0] 8 (World.laidAll_os _ _ _)
   (World.shaped_of_ZipB (by kernel_rfl) (by kernel_rfl)) (by kernel_rfl) (by kernel_rfl) (by kernel_rfl)
   (by rw[MakeChecks.laidMetH_plain _ _ _ (by kernel_rfl)];exact laidMet_laidAll _ (by kernel_rfl) (by kernel_rfl))) ?_
 intro W base args ds gs before Yb hW E1 hwt hL _
 have QO:∀(j:Nat) t v,Tryz.f3.params[j]? =some t→args[j]? =some v→Value.okWide Tryz.prog W .any base t v:=Yb
 have hW':=hW
 obtain ⟨p,q,hA0,hV,rfl,_,_⟩:=hW
 have hA:DataW.TrodAll enc Tryz.prog W 0 (fun _=>true) true Tryz.f3.params.toList args.toList ds p:=hA0
 have Uy:(DataW.weightsEach Tryz.prog (Tryz.f3.params.toList++[]) (ds++gs)).all (· ≤reachBytes)=true:=hwt
 rw[params3] at hA Uy
 rw[EJ] at QO
 obtain ⟨rfl,rfl⟩:=trodVars_none hV
 obtain ⟨v0,v1,v2,d0,d1,d2,p0,p1,p2,rfl,rfl,h0,h1,h2⟩:=Js hA
 have s0:=(Small.bQ (ts:=[22,23]) Uy).1
 have u0:=(Small.bQ (ts:=[22,23]) Uy).2
 have s1:=(Small.bQ (ts:=[23]) u0).1
 have u1:=(Small.bQ (ts:=[23]) u0).2
 have s2:=(Small.bQ (ts:=[]) u1).1
 have u2:=(Small.bQ (ts:=[]) u1).2
 refine (Ya (QO 0 22 v0 rfl rfl) (QO 1 22 v1 rfl rfl) (QO 2 23 v2 rfl rfl) s0 s1 s2 h0 h1 h2 hL).mono fun e W' ⟨he,hk⟩=>?_
 subst he
 refine ⟨_,rfl,[d0,d1,d2],[],_,[],p,[],hW',trodAll_mk1 (shut_bool Tryz.underlying4 _),?_,rfl,World.keptBut_mono (fun _ h=>h.elim) hk,fun h=>by cases h⟩
 have:=Ab.zn k2 hk Jr hA
 rw[←params3] at this
 exact this
theorem Jt:Rows.ClaimsRecordsSaid:=
 OpenClaim.holds_of_wide 3 Tryz.f3 rfl rfl rfl rfl rfl rfl rfl ⟨rfl,rfl,rfl,rfl,rfl⟩ rfl rfl rfl rfl rfl Tb Tryz.func3 closed
  (of_decide_eq_true (by kernel_rfl)) (by unfold Func.isWrapper;first | (rw[if_pos (by decide+kernel)];kernel_rfl) | (rw[if_neg (by decide+kernel)];exact ⟨rfl,rfl⟩))
  (fun os started H enc _=>lifted os started H enc)
theorem H9:Tryz.prog.wantsStandIn 22=false:=by kernel_rfl
theorem QP:Tryz.prog.wantsStandIn 23=false:=by kernel_rfl
theorem claimsRecords_holds:Rows.ClaimsRecordsCardSaid:=
 Claim7.holds_tied_plain_at .later [] [.data,.data,.data,.data,.sentinel,.sentinel,.pinned] true (true, "30f110c654f546902452ccbfb29fb7b2d79dd7f444001f960159d37a01c13806") true
  Jt (fun _ h=>by cases h) (by kernel_rfl) (fun _ h=>by cases h) claimsRecords_row_tie rfl ⟨rfl,rfl⟩ (by kernel_rfl) rfl
  (fun f fn hf qY=>by
   obtain rfl:f=3:=Option.some.inj ((show Tryz.prog.funcNamed _=some 3 by kernel_rfl).symm.trans hf)|>.symm
   obtain rfl:fn=Tryz.f3:=(Option.some.inj (Tryz.func3.symm.trans qY)).symm
   exact ⟨by kernel_rfl,fun j t ht=>by
    rw[EJ] at ht
    have hm:t∈ [22,22,23]:=by rw[show ([22,22,23]:List TypeId)=(#[22,22,23]:Array TypeId).toList from rfl];exact Array.mem_toList_iff.2 (Array.mem_of_getElem? ht)
    simp only[List.mem_cons,List.not_mem_nil,or_false] at hm
    rcases hm with rfl | rfl | rfl
    · exact H9
    · exact H9
    · exact QP⟩)
  (by kernel_rfl)
#print axioms claimsRecords_holds
end Go.Proofs.YtjbgioidmaofiaaGreatDoor
