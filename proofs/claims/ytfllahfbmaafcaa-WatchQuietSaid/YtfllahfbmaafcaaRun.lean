/-
  PROVED: underpinlaw07.WatchQuiet returns true at any arguments, and its arguments read behind the call as they read before.
  CONDITIONS: those of the given row alone. No condition beside.
  HOW: a deterministic evaluator of the program's text is proved sound once; each function's text is run by it over open values and comes to a definition in Lean that was read off the text; that the program's and the specification's definitions are equal is proved by induction.
-/
import Derived.Test.YtfllahfbmaafcaaRows
import Derived.ProofKit
import Derived.OpenShut
import Derived.SizedLaws
import Derived.Test.YtfllahfbmaafcaaFacts
import Derived.Test.YtfllahfbmaafcaaLive
import Derived.Test.YtfllahfbmaafcaaW14
import Derived.Test.YtfllahfbmaafcaaW13
namespace Go.Proofs.Ytfllahfbmaafcaa
open Go.ChangeShapes Go.WideShapes Go.ChangeAt Go.RowKit Ab Go.Proofs.aG
theorem own:ownKnob Try.prog.godebug=none:=by kernel_rfl
theorem params3:Try.f6.params.toList=[26,3,30,27,3,3,3]:=by kernel_rfl
theorem UZ:Try.f6.params= #[26,3,30,27,3,3,3]:=by kernel_rfl
theorem PN:∀t∈ [26,3,30,27,3,3,3],Try.prog.readableRec t=true∧t<Try.prog.types.size:=fun t ht=>by
 simp only[List.mem_cons,List.not_mem_nil,or_false] at ht
 rcases ht with rfl | rfl | rfl | rfl | rfl | rfl | rfl
 · exact ⟨by kernel_rfl,of_decide_eq_true (by kernel_rfl)⟩
 · exact ⟨by kernel_rfl,of_decide_eq_true (by kernel_rfl)⟩
 · exact ⟨by kernel_rfl,of_decide_eq_true (by kernel_rfl)⟩
 · exact ⟨by kernel_rfl,of_decide_eq_true (by kernel_rfl)⟩
 · exact ⟨by kernel_rfl,of_decide_eq_true (by kernel_rfl)⟩
 · exact ⟨by kernel_rfl,of_decide_eq_true (by kernel_rfl)⟩
 · exact ⟨by kernel_rfl,of_decide_eq_true (by kernel_rfl)⟩
theorem afO:Tidy (kW 0 []):=fun i o h=>by
 obtain ⟨x,hx,_,_⟩:=qM h
 cases hx
theorem PO {H:Type} {enc:TypeId×Value→H} {W:World} {base:Nat} {spare:Nat→Bool} {held:Bool} {t0 t1 t2 t3 t4 t5 t6:TypeId} {args:Array Value} {ds:List (DataW H)} {ps:List MemPlace} (h:DataW.TrodAll enc Try.prog W base spare held [t0,t1,t2,t3,t4,t5,t6] args.toList ds ps):
 ∃v0 v1 v2 v3 v4 v5 v6 d0 d1 d2 d3 d4 d5 d6 p0 p1 p2 p3 p4 p5 p6,args= #[v0,v1,v2,v3,v4,v5,v6]∧ds=[d0,d1,d2,d3,d4,d5,d6]∧DataW.Trod enc Try.prog W base spare held t0 v0 d0 p0∧DataW.Trod enc Try.prog W base spare held t1 v1 d1 p1∧DataW.Trod enc Try.prog W base spare held t2 v2 d2 p2∧DataW.Trod enc Try.prog W base spare held t3 v3 d3 p3∧DataW.Trod enc Try.prog W base spare held t4 v4 d4 p4∧DataW.Trod enc Try.prog W base spare held t5 v5 d5 p5∧DataW.Trod enc Try.prog W base spare held t6 v6 d6 p6:=by
 obtain ⟨v0,w0,d0,e0,p0,q0,a0,rfl,rfl,h0,r0⟩:=trodAll_cons h
 obtain ⟨v1,w1,d1,e1,p1,q1,a1,rfl,rfl,h1,r1⟩:=trodAll_cons r0
 obtain ⟨v2,w2,d2,e2,p2,q2,a2,rfl,rfl,h2,r2⟩:=trodAll_cons r1
 obtain ⟨v3,w3,d3,e3,p3,q3,a3,rfl,rfl,h3,r3⟩:=trodAll_cons r2
 obtain ⟨v4,w4,d4,e4,p4,q4,a4,rfl,rfl,h4,r4⟩:=trodAll_cons r3
 obtain ⟨v5,w5,d5,e5,p5,q5,a5,rfl,rfl,h5,r5⟩:=trodAll_cons r4
 obtain ⟨v6,w6,d6,e6,p6,q6,a6,rfl,rfl,h6,r6⟩:=trodAll_cons r5
 obtain ⟨rfl,rfl,rfl⟩:=trodAll_nil r6
 subst a6
 subst a5
 subst a4
 subst a3
 subst a2
 subst a1
 exact ⟨v0,v1,v2,v3,v4,v5,v6,d0,d1,d2,d3,d4,d5,d6,p0,p1,p2,p3,p4,p5,p6,by cases args;simp_all,rfl,h0,h1,h2,h3,h4,h5,h6⟩
set_option maxRecDepth 100000
theorem afP {H:Type} {enc:TypeId×Value→H} {W:World} {v0 v1 v2 v3 v4 v5 v6:Value} {d0 d1 d2 d3 d4 d5 d6:DataW H} {p0 p1 p2 p3 p4 p5 p6:List MemPlace} {r:Reach} {b0:Nat} (k0:Value.okWide Try.prog W r b0 26 v0) (k1:Value.okWide Try.prog W r b0 3 v1) (k2:Value.okWide Try.prog W r b0 30 v2) (k3:Value.okWide Try.prog W r b0 27 v3) (k4:Value.okWide Try.prog W r b0 3 v4) (k5:Value.okWide Try.prog W r b0 3 v5) (k6:Value.okWide Try.prog W r b0 3 v6) (s0:Small 26 d0) (s1:Small 3 d1) (s2:Small 30 d2) (s3:Small 27 d3) (s4:Small 3 d4) (s5:Small 3 d5) (s6:Small 3 d6) (h0:DataW.Trod enc Try.prog W 0 (fun _=>true) true 26 v0 d0 p0) (h1:DataW.Trod enc Try.prog W 0 (fun _=>true) true 3 v1 d1 p1) (h2:DataW.Trod enc Try.prog W 0 (fun _=>true) true 30 v2 d2 p2) (h3:DataW.Trod enc Try.prog W 0 (fun _=>true) true 27 v3 d3 p3) (h4:DataW.Trod enc Try.prog W 0 (fun _=>true) true 3 v4 d4 p4) (h5:DataW.Trod enc Try.prog W 0 (fun _=>true) true 3 v5 d5 p5) (h6:DataW.Trod enc Try.prog W 0 (fun _=>true) true 3 v6 d6 p6):
 Calls Try.prog 6 #[v0,v1,v2,v3,v4,v5,v6] W fun en w'=>en= .returned (.bool true)∧W.keptBut w' (fun _=>False):=by
 obtain ⟨c0,rfl,z0⟩:=okWide_struct Try.underlying26 k0
 have n0:c0.toList.length=7:=by rw[Array.length_toList,z0];exact UX
 obtain ⟨f0,h0⟩:=h0
 obtain ⟨a1,rfl⟩:=okWide_int Try.underlying3 k1
 obtain ⟨f1,h1⟩:=h1
 obtain ⟨a2,b2,c2,rfl⟩:=okWide_slice Try.underlying30 k2
 obtain ⟨f2,h2⟩:=h2
 obtain ⟨a3,b3,c3,rfl⟩:=okWide_slice Try.underlying27 k3
 obtain ⟨f3,h3⟩:=h3
 obtain ⟨a4,rfl⟩:=okWide_int Try.underlying3 k4
 obtain ⟨f4,h4⟩:=h4
 obtain ⟨a5,rfl⟩:=okWide_int Try.underlying3 k5
 obtain ⟨f5,h5⟩:=h5
 obtain ⟨a6,rfl⟩:=okWide_int Try.underlying3 k6
 obtain ⟨f6,h6⟩:=h6
 have ok:OK env (Yp 0) (kW 0 []) W:=OK.begin (E:=env) fun x hx=>by cases hx
 have G:Gx (Yp 0) (Yp 0) (kW 0 []) (kW 0 []) W:=Gx.refl ok wQ.begin afO
 obtain ⟨φ0,m0,x0,g0,l0,o0⟩:=XZ (enc:=enc) (w:=W) (base:=0) (spare:=fun _=>true) (held:=true) _ _ G.ok G.ro G.tidy c0.toList _ f0 n0 s0 h0
 have G0:=Gx.trans G g0
 obtain ⟨φ1,m1,x1,g1,l1,o1⟩:=eQ (enc:=enc) (w:=W) (base:=0) (spare:=fun _=>true) (held:=true) (t:=3) Try.underlying3 _ _ G0.ok G0.ro G0.tidy [_] _ f1 rfl s1 h1
 have G1:=Gx.trans G0 g1
 obtain ⟨φ2,m2,x2,g2,l2,o2⟩:=X2 (enc:=enc) (w:=W) (base:=0) (spare:=fun _=>true) (held:=true) _ _ G1.ok G1.ro G1.tidy [_] _ f2 rfl s2 h2
 have G2:=Gx.trans G1 g2
 obtain ⟨φ3,m3,x3,g3,l3,o3⟩:=X1 (enc:=enc) (w:=W) (base:=0) (spare:=fun _=>true) (held:=true) _ _ G2.ok G2.ro G2.tidy [_] _ f3 rfl s3 h3
 have G3:=Gx.trans G2 g3
 obtain ⟨φ4,m4,x4,g4,l4,o4⟩:=eQ (enc:=enc) (w:=W) (base:=0) (spare:=fun _=>true) (held:=true) (t:=3) Try.underlying3 _ _ G3.ok G3.ro G3.tidy [_] _ f4 rfl s4 h4
 have G4:=Gx.trans G3 g4
 obtain ⟨φ5,m5,x5,g5,l5,o5⟩:=eQ (enc:=enc) (w:=W) (base:=0) (spare:=fun _=>true) (held:=true) (t:=3) Try.underlying3 _ _ G4.ok G4.ro G4.tidy [_] _ f5 rfl s5 h5
 have G5:=Gx.trans G4 g5
 obtain ⟨φ6,m6,x6,g6,l6,o6⟩:=eQ (enc:=enc) (w:=W) (base:=0) (spare:=fun _=>true) (held:=true) (t:=3) Try.underlying3 _ _ G5.ok G5.ro G5.tidy [_] _ f6 rfl s6 h6
 have G6:=Gx.trans G5 g6
 have L0:=LR.mono (Ph.le_trans (Ph.le_trans (Ph.le_trans (Ph.le_trans (Ph.le_trans (Ph.le_trans (Ph.le_refl _) g1.le) g2.le) g3.le) g4.le) g5.le) g6.le) l0
 have va0:VR φ6 (.agg (aA.c x0)) (.agg c0):=VR.agg _ _ (by rw[L0.1,Array.length_toList]) fun i x y a b=>L0.2 i x y a (by rw[Array.getElem?_toList];exact b)
 have L1:=LR.mono (Ph.le_trans (Ph.le_trans (Ph.le_trans (Ph.le_trans (Ph.le_trans (Ph.le_refl _) g2.le) g3.le) g4.le) g5.le) g6.le) l1
 have L2:=LR.mono (Ph.le_trans (Ph.le_trans (Ph.le_trans (Ph.le_trans (Ph.le_refl _) g3.le) g4.le) g5.le) g6.le) l2
 have L3:=LR.mono (Ph.le_trans (Ph.le_trans (Ph.le_trans (Ph.le_refl _) g4.le) g5.le) g6.le) l3
 have L4:=LR.mono (Ph.le_trans (Ph.le_trans (Ph.le_refl _) g5.le) g6.le) l4
 have L5:=LR.mono (Ph.le_trans (Ph.le_refl _) g6.le) l5
 have L6:=LR.mono (Ph.le_refl _) l6
 have rr:=IK Sc adn (PI (d:=0) (h:=m6) x0 x1 x2.2 x3.2 x4 x5 x6 (aA.mono (((((((Has.refl _).trans g1.has).trans g2.has).trans g3.has).trans g4.has).trans g5.has).trans g6.has) o0) (o2.has (((((Has.refl _).trans g3.has).trans g4.has).trans g5.has).trans g6.has)) (o3.has ((((Has.refl _).trans g4.has).trans g5.has).trans g6.has)) G6.tidy)
 rw[UR] at rr
 exact Gb rr G6.ok (vs:=[.agg c0,_,_,_,_,_,_]) (LR.cons va0 (LR.cons (L1.2 0 _ _ rfl rfl) (LR.cons (L2.2 0 _ _ rfl rfl) (LR.cons (L3.2 0 _ _ rfl rfl) (LR.cons (L4.2 0 _ _ rfl rfl) (LR.cons (L5.2 0 _ _ rfl rfl) (LR.cons (L6.2 0 _ _ rfl rfl) (LR.nil _)))))))) G6.ro
set_option maxRecDepth 100000 in
theorem lifted (os:Os) (started:os.Started) (H:Type) (enc:TypeId×Value→H):
 ReturnsInHanded {} Try.checked os 6 .any (Rows.watchQuietSpec.pre6 enc Try.prog Try.f6 Rows.watchQuietRow.domain false) (Rows.watchQuietSpec.post enc Try.prog Try.f6 false true false false):=by
 refine returnsInHanded_of_change_sized (C:=Try.checked) own started (by kernel_rfl) Try.func6
  (ChangeSpec.witness6 (enc:=enc) (C:=Try.checked) false ⟨#[], #[.agg #[.string ByteArray.empty,.int .i64 0,.int .i64 0,.int .i64 0,.int .i64 0,.int .i64 0,.slice none 0 0],.int .i64 0,.slice none 0 0,.slice none 0 0,.int .i64 0,.int .i64 0,.int .i64 0],[]⟩ 8 (by kernel_rfl) (by kernel_rfl) (by kernel_rfl) (by kernel_rfl)) ?_
 intro W base args ds gs before afQ hW Ke hwt _
 have JT:∀(j:Nat) t v,Try.f6.params[j]? =some t→args[j]? =some v→Value.okWide Try.prog W .any base t v:=afQ
 have hW':=hW
 obtain ⟨p,q,hA0,hV,rfl,_,_⟩:=hW
 have hA:DataW.TrodAll enc Try.prog W 0 (fun _=>true) true Try.f6.params.toList args.toList ds p:=hA0
 have acb:(DataW.weightsEach Try.prog (Try.f6.params.toList++[]) (ds++gs)).all (· ≤reachBytes)=true:=hwt
 rw[params3] at hA acb
 rw[UZ] at JT
 obtain ⟨rfl,rfl⟩:=trodVars_none hV
 obtain ⟨v0,v1,v2,v3,v4,v5,v6,d0,d1,d2,d3,d4,d5,d6,p0,p1,p2,p3,p4,p5,p6,rfl,rfl,h0,h1,h2,h3,h4,h5,h6⟩:=PO hA
 have s0:=(Small.cf (ts:=[3,30,27,3,3,3]) acb).1
 have u0:=(Small.cf (ts:=[3,30,27,3,3,3]) acb).2
 have s1:=(Small.cf (ts:=[30,27,3,3,3]) u0).1
 have u1:=(Small.cf (ts:=[30,27,3,3,3]) u0).2
 have s2:=(Small.cf (ts:=[27,3,3,3]) u1).1
 have u2:=(Small.cf (ts:=[27,3,3,3]) u1).2
 have s3:=(Small.cf (ts:=[3,3,3]) u2).1
 have u3:=(Small.cf (ts:=[3,3,3]) u2).2
 have s4:=(Small.cf (ts:=[3,3]) u3).1
 have u4:=(Small.cf (ts:=[3,3]) u3).2
 have s5:=(Small.cf (ts:=[3]) u4).1
 have u5:=(Small.cf (ts:=[3]) u4).2
 have s6:=(Small.cf (ts:=[]) u5).1
 have u6:=(Small.cf (ts:=[]) u5).2
 refine (afP (JT 0 26 v0 rfl rfl) (JT 1 3 v1 rfl rfl) (JT 2 30 v2 rfl rfl) (JT 3 27 v3 rfl rfl) (JT 4 3 v4 rfl rfl) (JT 5 3 v5 rfl rfl) (JT 6 3 v6 rfl rfl) s0 s1 s2 s3 s4 s5 s6 h0 h1 h2 h3 h4 h5 h6).mono fun e W' ⟨he,hk⟩=>?_
 subst he
 refine ⟨_,rfl,[d0,d1,d2,d3,d4,d5,d6],[],_,[],p,[],hW',trodAll_mk1 (shut_bool Try.underlying4 _),?_,rfl,World.keptBut_mono (fun _ h=>h.elim) hk,fun h=>by cases h⟩
 have:=Ab.D_ k2 hk PN hA
 rw[←params3] at this
 exact this
theorem watchQuiet_holds:Rows.WatchQuietSaid:=
 OpenClaim.holds_of_wide 6 Try.f6 rfl rfl rfl rfl rfl rfl rfl ⟨rfl,rfl,rfl,rfl,rfl⟩ rfl rfl rfl rfl rfl aau Try.func6 closed
  (of_decide_eq_true (by kernel_rfl)) (by unfold Func.isWrapper;first | (rw[if_pos (by decide+kernel)];kernel_rfl) | (rw[if_neg (by decide+kernel)];exact ⟨rfl,rfl⟩))
  (fun os started H enc _=>lifted os started H enc)
#print axioms watchQuiet_holds
end Go.Proofs.Ytfllahfbmaafcaa
