/- PROVED: underpinlaw07.WatchWitness returns true at any arguments. No condition beside those of the row. -/
import Derived.Test.YtfllahfbmaafcaaRows
import Derived.ProofKit
import Derived.OpenShut
import Derived.SizedLaws
import Derived.Test.YtfllahfbmaafcaaFacts
import Derived.Test.YtfllahfbmaafcaaLive
import Derived.Test.YtfllahfbmaafcaaW15
namespace Go.Proofs.Ytfllahfbmaafcaa
open Go.ChangeShapes Go.WideShapes Go.ChangeAt Go.RowKit Ab Go.Proofs.aG
theorem own:ownKnob Try.prog.godebug=none:=by kernel_rfl
theorem params3:Try.f3.params.toList=[26,27,3,3]:=by kernel_rfl
theorem UT:Try.f3.params= #[26,27,3,3]:=by kernel_rfl
theorem PZ:∀t∈ [26,27,3,3],Try.prog.readableRec t=true∧t<Try.prog.types.size:=fun t ht=>by
 simp only[List.mem_cons,List.not_mem_nil,or_false] at ht
 rcases ht with rfl | rfl | rfl | rfl
 · exact ⟨by kernel_rfl,of_decide_eq_true (by kernel_rfl)⟩
 · exact ⟨by kernel_rfl,of_decide_eq_true (by kernel_rfl)⟩
 · exact ⟨by kernel_rfl,of_decide_eq_true (by kernel_rfl)⟩
 · exact ⟨by kernel_rfl,of_decide_eq_true (by kernel_rfl)⟩
theorem aeJ:Tidy (lU 0 []):=fun i o h=>by
 obtain ⟨x,hx,_,_⟩:=rn h
 cases hx
theorem P3 {H:Type} {enc:TypeId×Value→H} {W:World} {base:Nat} {spare:Nat→Bool} {held:Bool} {t0 t1 t2 t3:TypeId} {args:Array Value} {ds:List (DataW H)} {ps:List MemPlace} (h:DataW.TrodAll enc Try.prog W base spare held [t0,t1,t2,t3] args.toList ds ps):
 ∃v0 v1 v2 v3 d0 d1 d2 d3 p0 p1 p2 p3,args= #[v0,v1,v2,v3]∧ds=[d0,d1,d2,d3]∧DataW.Trod enc Try.prog W base spare held t0 v0 d0 p0∧DataW.Trod enc Try.prog W base spare held t1 v1 d1 p1∧DataW.Trod enc Try.prog W base spare held t2 v2 d2 p2∧DataW.Trod enc Try.prog W base spare held t3 v3 d3 p3:=by
 obtain ⟨v0,w0,d0,e0,p0,q0,a0,rfl,rfl,h0,r0⟩:=trodAll_cons h
 obtain ⟨v1,w1,d1,e1,p1,q1,a1,rfl,rfl,h1,r1⟩:=trodAll_cons r0
 obtain ⟨v2,w2,d2,e2,p2,q2,a2,rfl,rfl,h2,r2⟩:=trodAll_cons r1
 obtain ⟨v3,w3,d3,e3,p3,q3,a3,rfl,rfl,h3,r3⟩:=trodAll_cons r2
 obtain ⟨rfl,rfl,rfl⟩:=trodAll_nil r3
 subst a3
 subst a2
 subst a1
 exact ⟨v0,v1,v2,v3,d0,d1,d2,d3,p0,p1,p2,p3,by cases args;simp_all,rfl,h0,h1,h2,h3⟩
set_option maxRecDepth 100000
theorem aeK {H:Type} {enc:TypeId×Value→H} {W:World} {v0 v1 v2 v3:Value} {d0 d1 d2 d3:DataW H} {p0 p1 p2 p3:List MemPlace} {r:Reach} {b0:Nat} (k0:Value.okWide Try.prog W r b0 26 v0) (k1:Value.okWide Try.prog W r b0 27 v1) (k2:Value.okWide Try.prog W r b0 3 v2) (k3:Value.okWide Try.prog W r b0 3 v3) (s0:Small 26 d0) (s1:Small 27 d1) (s2:Small 3 d2) (s3:Small 3 d3) (h0:DataW.Trod enc Try.prog W 0 (fun _=>true) true 26 v0 d0 p0) (h1:DataW.Trod enc Try.prog W 0 (fun _=>true) true 27 v1 d1 p1) (h2:DataW.Trod enc Try.prog W 0 (fun _=>true) true 3 v2 d2 p2) (h3:DataW.Trod enc Try.prog W 0 (fun _=>true) true 3 v3 d3 p3):
 Calls Try.prog 3 #[v0,v1,v2,v3] W fun en w'=>en= .returned (.bool true)∧W.keptBut w' (fun _=>False):=by
 obtain ⟨c0,rfl,z0⟩:=okWide_struct Try.underlying26 k0
 have n0:c0.toList.length=7:=by rw[Array.length_toList,z0];exact UR
 obtain ⟨f0,h0⟩:=h0
 obtain ⟨a1,b1,c1,rfl⟩:=okWide_slice Try.underlying27 k1
 obtain ⟨f1,h1⟩:=h1
 obtain ⟨a2,rfl⟩:=okWide_int Try.underlying3 k2
 obtain ⟨f2,h2⟩:=h2
 obtain ⟨a3,rfl⟩:=okWide_int Try.underlying3 k3
 obtain ⟨f3,h3⟩:=h3
 have ok:OK env (X6 0) (lU 0 []) W:=OK.begin (E:=env) fun x hx=>by cases hx
 have G:Gx (X6 0) (X6 0) (lU 0 []) (lU 0 []) W:=Gx.refl ok xq.begin aeJ
 obtain ⟨φ0,m0,x0,g0,l0,o0⟩:=XF (enc:=enc) (w:=W) (base:=0) (spare:=fun _=>true) (held:=true) _ _ G.ok G.ro G.tidy c0.toList _ f0 n0 s0 h0
 have G0:=Gx.trans G g0
 obtain ⟨φ1,m1,x1,g1,l1,o1⟩:=XH (enc:=enc) (w:=W) (base:=0) (spare:=fun _=>true) (held:=true) _ _ G0.ok G0.ro G0.tidy [_] _ f1 rfl s1 h1
 have G1:=Gx.trans G0 g1
 obtain ⟨φ2,m2,x2,g2,l2,o2⟩:=gv (enc:=enc) (w:=W) (base:=0) (spare:=fun _=>true) (held:=true) (t:=3) Try.underlying3 _ _ G1.ok G1.ro G1.tidy [_] _ f2 rfl s2 h2
 have G2:=Gx.trans G1 g2
 obtain ⟨φ3,m3,x3,g3,l3,o3⟩:=gv (enc:=enc) (w:=W) (base:=0) (spare:=fun _=>true) (held:=true) (t:=3) Try.underlying3 _ _ G2.ok G2.ro G2.tidy [_] _ f3 rfl s3 h3
 have G3:=Gx.trans G2 g3
 have L0:=LR.mono (Ph.le_trans (Ph.le_trans (Ph.le_trans (Ph.le_refl _) g1.le) g2.le) g3.le) l0
 have va0:VR φ3 (.agg (aF.c x0)) (.agg c0):=VR.agg _ _ (by rw[L0.1,Array.length_toList]) fun i x y a b=>L0.2 i x y a (by rw[Array.getElem?_toList];exact b)
 have L1:=LR.mono (Ph.le_trans (Ph.le_trans (Ph.le_refl _) g2.le) g3.le) l1
 have L2:=LR.mono (Ph.le_trans (Ph.le_refl _) g3.le) l2
 have L3:=LR.mono (Ph.le_refl _) l3
 have rr:=Jo Sv acN (XB (d:=0) (h:=m3) x0 x1.2 x2 x3 (aF.mono ((((Has.refl _).trans g1.has).trans g2.has).trans g3.has) o0) (o1.has (((Has.refl _).trans g2.has).trans g3.has)) G3.tidy)
 rw[UN] at rr
 exact GG rr G3.ok (vs:=[.agg c0,_,_,_]) (LR.cons va0 (LR.cons (L1.2 0 _ _ rfl rfl) (LR.cons (L2.2 0 _ _ rfl rfl) (LR.cons (L3.2 0 _ _ rfl rfl) (LR.nil _))))) G3.ro
set_option maxRecDepth 100000 in
theorem lifted (os:Os) (started:os.Started) (H:Type) (enc:TypeId×Value→H):
 ReturnsInHanded {} Try.checked os 3 .any (Rows.watchWitnessSpec.pre6 enc Try.prog Try.f3 Rows.watchWitnessRow.domain false) (Rows.watchWitnessSpec.post enc Try.prog Try.f3 false true false false):=by
 refine returnsInHanded_of_change_sized (C:=Try.checked) own started (by kernel_rfl) Try.func3
  (ChangeSpec.witness6 (enc:=enc) (C:=Try.checked) false ⟨#[], #[.agg #[.string ByteArray.empty,.int .i64 0,.int .i64 0,.int .i64 0,.int .i64 0,.int .i64 0,.slice none 0 0],.slice none 0 0,.int .i64 0,.int .i64 0],[]⟩ 8 (by kernel_rfl) (by kernel_rfl) (by kernel_rfl) (by kernel_rfl)) ?_
 intro W base args ds gs before aeL hW KM hwt _
 have UU:∀(j:Nat) t v,Try.f3.params[j]? =some t→args[j]? =some v→Value.okWide Try.prog W .any base t v:=aeL
 have hW':=hW
 obtain ⟨p,q,hA0,hV,rfl,_,_⟩:=hW
 have hA:DataW.TrodAll enc Try.prog W 0 (fun _=>true) true Try.f3.params.toList args.toList ds p:=hA0
 have abR:(DataW.weightsEach Try.prog (Try.f3.params.toList++[]) (ds++gs)).all (· ≤reachBytes)=true:=hwt
 rw[params3] at hA abR
 rw[UT] at UU
 obtain ⟨rfl,rfl⟩:=trodVars_none hV
 obtain ⟨v0,v1,v2,v3,d0,d1,d2,d3,p0,p1,p2,p3,rfl,rfl,h0,h1,h2,h3⟩:=P3 hA
 have s0:=(Small.cu (ts:=[27,3,3]) abR).1
 have u0:=(Small.cu (ts:=[27,3,3]) abR).2
 have s1:=(Small.cu (ts:=[3,3]) u0).1
 have u1:=(Small.cu (ts:=[3,3]) u0).2
 have s2:=(Small.cu (ts:=[3]) u1).1
 have u2:=(Small.cu (ts:=[3]) u1).2
 have s3:=(Small.cu (ts:=[]) u2).1
 have u3:=(Small.cu (ts:=[]) u2).2
 refine (aeK (UU 0 26 v0 rfl rfl) (UU 1 27 v1 rfl rfl) (UU 2 3 v2 rfl rfl) (UU 3 3 v3 rfl rfl) s0 s1 s2 s3 h0 h1 h2 h3).mono fun e W' ⟨he,hk⟩=>?_
 subst he
 refine ⟨_,rfl,[d0,d1,d2,d3],[],_,[],p,[],hW',trodAll_mk1 (shut_bool Try.underlying4 _),?_,rfl,World.keptBut_mono (fun _ h=>h.elim) hk,fun h=>by cases h⟩
 have:=Ab.EF k2 hk PZ hA
 rw[←params3] at this
 exact this
theorem watchWitness_holds:Rows.WatchWitnessSaid:=
 OpenClaim.holds_of_wide 3 Try.f3 rfl rfl rfl rfl rfl rfl rfl ⟨rfl,rfl,rfl,rfl,rfl⟩ rfl rfl rfl rfl rfl ZV Try.func3 closed
  (of_decide_eq_true (by kernel_rfl)) (by unfold Func.isWrapper;first | (rw[if_pos (by decide+kernel)];kernel_rfl) | (rw[if_neg (by decide+kernel)];exact ⟨rfl,rfl⟩))
  (fun os started H enc _=>lifted os started H enc)
#print axioms watchWitness_holds
end Go.Proofs.Ytfllahfbmaafcaa
