/-
  PROVED: underpinlaw08.WorksGoes returns true at any arguments, and its arguments read behind the call as they read before.
  CONDITIONS: those of the given row alone. No condition beside.
  HOW: a deterministic evaluator of the program's text is proved sound once; each function's text is run by it over open values and comes to a definition in Lean that was read off the text; that the program's and the specification's definitions are equal is proved by induction.
-/
import Derived.Test.YtijehnelcbdlgaaGreatRows
import Derived.ProofKit
import Derived.OpenShut
import Derived.SizedLaws
import Derived.Test.YtijehnelcbdlgaaGreatFacts
import Derived.Test.YtijehnelcbdlgaaGreatLive
import Derived.Test.YtijehnelcbdlgaaGreatW19
import Derived.Test.YtijehnelcbdlgaaGreatW18
namespace Go.Proofs.YtijehnelcbdlgaaGreat
open Go.ChangeShapes Go.WideShapes Go.ChangeAt Go.RowKit Ab Go.Proofs.aM
theorem own:ownKnob Tryz.prog.godebug=none:=by kernel_rfl
theorem params3:Tryz.f5.params.toList=[25,26,3,3,3]:=by kernel_rfl
theorem afo:Tryz.f5.params= #[25,26,3,3,3]:=by kernel_rfl
theorem aaq:∀t∈ [25,26,3,3,3],Tryz.prog.readableRec t=true∧t<Tryz.prog.types.size:=fun t ht=>by
 simp only[List.mem_cons,List.not_mem_nil,or_false] at ht
 rcases ht with rfl | rfl | rfl | rfl | rfl
 · exact ⟨by kernel_rfl,of_decide_eq_true (by kernel_rfl)⟩
 · exact ⟨by kernel_rfl,of_decide_eq_true (by kernel_rfl)⟩
 · exact ⟨by kernel_rfl,of_decide_eq_true (by kernel_rfl)⟩
 · exact ⟨by kernel_rfl,of_decide_eq_true (by kernel_rfl)⟩
 · exact ⟨by kernel_rfl,of_decide_eq_true (by kernel_rfl)⟩
theorem apZ:Tidy (sR 0 []):=fun i o h=>by
 obtain ⟨x,hx,_,_⟩:=we h
 cases hx
theorem aar {H:Type} {enc:TypeId×Value→H} {W:World} {base:Nat} {spare:Nat→Bool} {held:Bool} {t0 t1 t2 t3 t4:TypeId} {args:Array Value} {ds:List (DataW H)} {ps:List MemPlace} (h:DataW.TrodAll enc Tryz.prog W base spare held [t0,t1,t2,t3,t4] args.toList ds ps):
 ∃v0 v1 v2 v3 v4 d0 d1 d2 d3 d4 p0 p1 p2 p3 p4,args= #[v0,v1,v2,v3,v4]∧ds=[d0,d1,d2,d3,d4]∧DataW.Trod enc Tryz.prog W base spare held t0 v0 d0 p0∧DataW.Trod enc Tryz.prog W base spare held t1 v1 d1 p1∧DataW.Trod enc Tryz.prog W base spare held t2 v2 d2 p2∧DataW.Trod enc Tryz.prog W base spare held t3 v3 d3 p3∧DataW.Trod enc Tryz.prog W base spare held t4 v4 d4 p4:=by
 obtain ⟨v0,w0,d0,e0,p0,q0,a0,rfl,rfl,h0,r0⟩:=trodAll_cons h
 obtain ⟨v1,w1,d1,e1,p1,q1,a1,rfl,rfl,h1,r1⟩:=trodAll_cons r0
 obtain ⟨v2,w2,d2,e2,p2,q2,a2,rfl,rfl,h2,r2⟩:=trodAll_cons r1
 obtain ⟨v3,w3,d3,e3,p3,q3,a3,rfl,rfl,h3,r3⟩:=trodAll_cons r2
 obtain ⟨v4,w4,d4,e4,p4,q4,a4,rfl,rfl,h4,r4⟩:=trodAll_cons r3
 obtain ⟨rfl,rfl,rfl⟩:=trodAll_nil r4
 subst a4
 subst a3
 subst a2
 subst a1
 exact ⟨v0,v1,v2,v3,v4,d0,d1,d2,d3,d4,p0,p1,p2,p3,p4,by cases args;simp_all,rfl,h0,h1,h2,h3,h4⟩
set_option maxRecDepth 100000
theorem ap0 {H:Type} {enc:TypeId×Value→H} {W:World} {v0 v1 v2 v3 v4:Value} {d0 d1 d2 d3 d4:DataW H} {p0 p1 p2 p3 p4:List MemPlace} {r:Reach} {b0:Nat} (k0:Value.okWide Tryz.prog W r b0 25 v0) (k1:Value.okWide Tryz.prog W r b0 26 v1) (k2:Value.okWide Tryz.prog W r b0 3 v2) (k3:Value.okWide Tryz.prog W r b0 3 v3) (k4:Value.okWide Tryz.prog W r b0 3 v4) (s0:Small 25 d0) (s1:Small 26 d1) (s2:Small 3 d2) (s3:Small 3 d3) (s4:Small 3 d4) (h0:DataW.Trod enc Tryz.prog W 0 (fun _=>true) true 25 v0 d0 p0) (h1:DataW.Trod enc Tryz.prog W 0 (fun _=>true) true 26 v1 d1 p1) (h2:DataW.Trod enc Tryz.prog W 0 (fun _=>true) true 3 v2 d2 p2) (h3:DataW.Trod enc Tryz.prog W 0 (fun _=>true) true 3 v3 d3 p3) (h4:DataW.Trod enc Tryz.prog W 0 (fun _=>true) true 3 v4 d4 p4):
 Calls Tryz.prog 5 #[v0,v1,v2,v3,v4] W fun en w'=>en= .returned (.bool true)∧W.keptBut w' (fun _=>False):=by
 obtain ⟨c0,rfl,z0⟩:=okWide_struct Tryz.underlying25 k0
 have n0:c0.toList.length=2:=by rw[Array.length_toList,z0];exact afn
 obtain ⟨f0,h0⟩:=h0
 obtain ⟨a1,b1,c1,rfl⟩:=okWide_slice Tryz.underlying26 k1
 obtain ⟨f1,h1⟩:=h1
 obtain ⟨a2,rfl⟩:=okWide_int Tryz.underlying3 k2
 obtain ⟨f2,h2⟩:=h2
 obtain ⟨a3,rfl⟩:=okWide_int Tryz.underlying3 k3
 obtain ⟨f3,h3⟩:=h3
 obtain ⟨a4,rfl⟩:=okWide_int Tryz.underlying3 k4
 obtain ⟨f4,h4⟩:=h4
 have ok:OK env (phG 0) (sR 0 []) W:=OK.begin (E:=env) fun x hx=>by cases hx
 have G:Gx (phG 0) (phG 0) (sR 0 []) (sR 0 []) W:=Gx.refl ok CG.begin apZ
 obtain ⟨φ0,m0,x0,g0,l0,o0⟩:=ah7 (enc:=enc) (w:=W) (base:=0) (spare:=fun _=>true) (held:=true) _ _ G.ok G.ro G.tidy c0.toList _ f0 n0 s0 h0
 have G0:=Gx.trans G g0
 obtain ⟨φ1,m1,x1,g1,l1,o1⟩:=Yc (enc:=enc) (w:=W) (base:=0) (spare:=fun _=>true) (held:=true) _ _ G0.ok G0.ro G0.tidy [_] _ f1 rfl s1 h1
 have G1:=Gx.trans G0 g1
 obtain ⟨φ2,m2,x2,g2,l2,o2⟩:=lV (enc:=enc) (w:=W) (base:=0) (spare:=fun _=>true) (held:=true) (t:=3) Tryz.underlying3 _ _ G1.ok G1.ro G1.tidy [_] _ f2 rfl s2 h2
 have G2:=Gx.trans G1 g2
 obtain ⟨φ3,m3,x3,g3,l3,o3⟩:=lV (enc:=enc) (w:=W) (base:=0) (spare:=fun _=>true) (held:=true) (t:=3) Tryz.underlying3 _ _ G2.ok G2.ro G2.tidy [_] _ f3 rfl s3 h3
 have G3:=Gx.trans G2 g3
 obtain ⟨φ4,m4,x4,g4,l4,o4⟩:=lV (enc:=enc) (w:=W) (base:=0) (spare:=fun _=>true) (held:=true) (t:=3) Tryz.underlying3 _ _ G3.ok G3.ro G3.tidy [_] _ f4 rfl s4 h4
 have G4:=Gx.trans G3 g4
 have L0:=LR.mono (Ph.le_trans (Ph.le_trans (Ph.le_trans (Ph.le_trans (Ph.le_refl _) g1.le) g2.le) g3.le) g4.le) l0
 have va0:VR φ4 (.agg (aK.c x0)) (.agg c0):=VR.agg _ _ (by rw[L0.1,Array.length_toList]) fun i x y a b=>L0.2 i x y a (by rw[Array.getElem?_toList];exact b)
 have L1:=LR.mono (Ph.le_trans (Ph.le_trans (Ph.le_trans (Ph.le_refl _) g2.le) g3.le) g4.le) l1
 have L2:=LR.mono (Ph.le_trans (Ph.le_trans (Ph.le_refl _) g3.le) g4.le) l2
 have L3:=LR.mono (Ph.le_trans (Ph.le_refl _) g4.le) l3
 have L4:=LR.mono (Ph.le_refl _) l4
 have rr:=Q9 Ws anA (amx (d:=0) (h:=m4) x0 x1.2 x2 x3 x4 (aK.mono (((((Has.refl _).trans g1.has).trans g2.has).trans g3.has).trans g4.has) o0) (o1.has ((((Has.refl _).trans g2.has).trans g3.has).trans g4.has)) G4.tidy)
 exact N_ rr G4.ok (vs:=[.agg c0,_,_,_,_]) (LR.cons va0 (LR.cons (L1.2 0 _ _ rfl rfl) (LR.cons (L2.2 0 _ _ rfl rfl) (LR.cons (L3.2 0 _ _ rfl rfl) (LR.cons (L4.2 0 _ _ rfl rfl) (LR.nil _)))))) G4.ro
set_option maxRecDepth 100000 in
theorem lifted (os:Os) (started:os.Started) (H:Type) (enc:TypeId×Value→H):
 ReturnsInHanded {} Tryz.checked os 5 .any (Rows.worksGoesSpec.pre6 enc Tryz.prog Tryz.f5 Rows.worksGoesRow.domain false) (Rows.worksGoesSpec.post enc Tryz.prog Tryz.f5 false true false false):=by
 refine returnsInHanded_of_change_sized (C:=Tryz.checked) own started (by kernel_rfl) Tryz.func5
  (ChangeSpec.witness6 (enc:=enc) (C:=Tryz.checked) false ⟨#[], #[.agg #[.slice none 0 0,.slice none 0 0],.slice none 0 0,.int .i64 0,.int .i64 0,.int .i64 0],[]⟩ 8 (by kernel_rfl) (by kernel_rfl) (by kernel_rfl) (by kernel_rfl)) ?_
 intro W base args ds gs before ap1 hW Tw hwt _
 have aas:∀(j:Nat) t v,Tryz.f5.params[j]? =some t→args[j]? =some v→Value.okWide Tryz.prog W .any base t v:=ap1
 have hW':=hW
 obtain ⟨p,q,hA0,hV,rfl,_,_⟩:=hW
 have hA:DataW.TrodAll enc Tryz.prog W 0 (fun _=>true) true Tryz.f5.params.toList args.toList ds p:=hA0
 have amA:(DataW.weightsEach Tryz.prog (Tryz.f5.params.toList++[]) (ds++gs)).all (· ≤reachBytes)=true:=hwt
 rw[params3] at hA amA
 rw[afo] at aas
 obtain ⟨rfl,rfl⟩:=trodVars_none hV
 obtain ⟨v0,v1,v2,v3,v4,d0,d1,d2,d3,d4,p0,p1,p2,p3,p4,rfl,rfl,h0,h1,h2,h3,h4⟩:=aar hA
 have s0:=(Small.dp (ts:=[26,3,3,3]) amA).1
 have u0:=(Small.dp (ts:=[26,3,3,3]) amA).2
 have s1:=(Small.dp (ts:=[3,3,3]) u0).1
 have u1:=(Small.dp (ts:=[3,3,3]) u0).2
 have s2:=(Small.dp (ts:=[3,3]) u1).1
 have u2:=(Small.dp (ts:=[3,3]) u1).2
 have s3:=(Small.dp (ts:=[3]) u2).1
 have u3:=(Small.dp (ts:=[3]) u2).2
 have s4:=(Small.dp (ts:=[]) u3).1
 have u4:=(Small.dp (ts:=[]) u3).2
 refine (ap0 (aas 0 25 v0 rfl rfl) (aas 1 26 v1 rfl rfl) (aas 2 3 v2 rfl rfl) (aas 3 3 v3 rfl rfl) (aas 4 3 v4 rfl rfl) s0 s1 s2 s3 s4 h0 h1 h2 h3 h4).mono fun e W' ⟨he,hk⟩=>?_
 subst he
 refine ⟨_,rfl,[d0,d1,d2,d3,d4],[],_,[],p,[],hW',trodAll_mk1 (shut_bool Tryz.underlying4 _),?_,rfl,World.keptBut_mono (fun _ h=>h.elim) hk,fun h=>by cases h⟩
 have:=Ab.Mq k2 hk aaq hA
 rw[←params3] at this
 exact this
theorem worksGoes_holds:Rows.WorksGoesSaid:=
 OpenClaim.holds_of_wide 5 Tryz.f5 rfl rfl rfl rfl rfl rfl rfl ⟨rfl,rfl,rfl,rfl,rfl⟩ rfl rfl rfl rfl rfl ajG Tryz.func5 closed
  (of_decide_eq_true (by kernel_rfl)) (by unfold Func.isWrapper;first | (rw[if_pos (by decide+kernel)];kernel_rfl) | (rw[if_neg (by decide+kernel)];exact ⟨rfl,rfl⟩))
  (fun os started H enc _=>lifted os started H enc)
#print axioms worksGoes_holds
end Go.Proofs.YtijehnelcbdlgaaGreat
