/-
  PROVED: underpinlaw08.WorksFloors returns true at any arguments, and its arguments read behind the call as they read before.
  CONDITIONS: those of the given row alone. No condition beside.
  HOW: a deterministic evaluator of the program's text is proved sound once; each function's text is run by it over open values and comes to a definition in Lean that was read off the text; that the program's and the specification's definitions are equal is proved by induction.
-/
import Derived.Test.YtijehnelcbdlgaaGreatRows
import Derived.ProofKit
import Derived.OpenShut
import Derived.SizedLaws
import Derived.Test.YtijehnelcbdlgaaGreatFacts
import Derived.Test.YtijehnelcbdlgaaGreatLive
import Derived.Test.YtijehnelcbdlgaaGreatW12
namespace Go.Proofs.YtijehnelcbdlgaaGreat
open Go.ChangeShapes Go.WideShapes Go.ChangeAt Go.RowKit Ab Go.Proofs.aE
theorem own:ownKnob Tryz.prog.godebug=none:=by kernel_rfl
theorem params3:Tryz.f3.params.toList=[25,28]:=by kernel_rfl
theorem TX:Tryz.f3.params= #[25,28]:=by kernel_rfl
theorem Ps:∀t∈ [25,28],Tryz.prog.readableRec t=true∧t<Tryz.prog.types.size:=fun t ht=>by
 simp only[List.mem_cons,List.not_mem_nil,or_false] at ht
 rcases ht with rfl | rfl
 · exact ⟨by kernel_rfl,of_decide_eq_true (by kernel_rfl)⟩
 · exact ⟨by kernel_rfl,of_decide_eq_true (by kernel_rfl)⟩
theorem ac3:Tidy (lS 0 []):=fun i o h=>by
 obtain ⟨x,hx,_,_⟩:=ri h
 cases hx
theorem Pu {H:Type} {enc:TypeId×Value→H} {W:World} {base:Nat} {spare:Nat→Bool} {held:Bool} {t0 t1:TypeId} {args:Array Value} {ds:List (DataW H)} {ps:List MemPlace} (h:DataW.TrodAll enc Tryz.prog W base spare held [t0,t1] args.toList ds ps):
 ∃v0 v1 d0 d1 p0 p1,args= #[v0,v1]∧ds=[d0,d1]∧DataW.Trod enc Tryz.prog W base spare held t0 v0 d0 p0∧DataW.Trod enc Tryz.prog W base spare held t1 v1 d1 p1:=by
 obtain ⟨v0,w0,d0,e0,p0,q0,a0,rfl,rfl,h0,r0⟩:=trodAll_cons h
 obtain ⟨v1,w1,d1,e1,p1,q1,a1,rfl,rfl,h1,r1⟩:=trodAll_cons r0
 obtain ⟨rfl,rfl,rfl⟩:=trodAll_nil r1
 subst a1
 exact ⟨v0,v1,d0,d1,p0,p1,by cases args;simp_all,rfl,h0,h1⟩
set_option maxRecDepth 100000
theorem Pv {φ:Ph} {W:World} {r:Reach} {b:Nat} {c:Array Value} {x:jg} (k:Value.okWide Tryz.prog W r b 28 (.agg c)) (l:LR φ (aB.c x) c.toList):x.ay<9223372036854775808:=by
 simp only[Value.okWide,Tryz.underlying28] at k
 obtain ⟨cs,e,_,ts,h1,_,h2⟩:=k
 cases e
 have ht:Tryz.prog.cellTypes Tryz.prog.depth 28=some [3,26,3]:=by kernel_rfl
 rw[ht] at h1
 cases h1
 have l3:c.toList.length=3:=l.1.symm
 obtain ⟨v,hv⟩:∃v,c.toList[0]? =some v:=⟨_,List.getElem?_eq_getElem (by omega)⟩
 have vr:VR φ (.int .i64 x.ay) v:=l.2 0 _ _ rfl hv
 obtain ⟨u,hu,hk⟩:=h2 0 v (by rw[←Array.getElem?_toList];exact hv)
 cases hu
 cases vr
 simp only[Cell.okWide,Tryz.underlying3,Cell.ok] at hk
 have:=hk.2.2
 have e:IntKind.i64.max=9223372036854775807:=by decide
 omega
set_option maxRecDepth 100000
theorem ac4 {H:Type} {enc:TypeId×Value→H} {W:World} {v0 v1:Value} {d0 d1:DataW H} {p0 p1:List MemPlace} {r:Reach} {b0:Nat} (k0:Value.okWide Tryz.prog W r b0 25 v0) (k1:Value.okWide Tryz.prog W r b0 28 v1) (s0:Small 25 d0) (s1:Small 28 d1) (h0:DataW.Trod enc Tryz.prog W 0 (fun _=>true) true 25 v0 d0 p0) (h1:DataW.Trod enc Tryz.prog W 0 (fun _=>true) true 28 v1 d1 p1):
 Calls Tryz.prog 3 #[v0,v1] W fun en w'=>en= .returned (.bool true)∧W.keptBut w' (fun _=>False):=by
 obtain ⟨c0,rfl,z0⟩:=okWide_struct Tryz.underlying25 k0
 have n0:c0.toList.length=2:=by rw[Array.length_toList,z0];exact TV
 obtain ⟨f0,h0⟩:=h0
 obtain ⟨c1,rfl,z1⟩:=okWide_struct Tryz.underlying28 k1
 have n1:c1.toList.length=3:=by rw[Array.length_toList,z1];exact TW
 obtain ⟨f1,h1⟩:=h1
 have ok:OK env (Xq 0) (lS 0 []) W:=OK.begin (E:=env) fun x hx=>by cases hx
 have G:Gx (Xq 0) (Xq 0) (lS 0 []) (lS 0 []) W:=Gx.refl ok xa.begin ac3
 obtain ⟨φ0,m0,x0,g0,l0,o0⟩:=WW (enc:=enc) (w:=W) (base:=0) (spare:=fun _=>true) (held:=true) _ _ G.ok G.ro G.tidy c0.toList _ f0 n0 s0 h0
 have G0:=Gx.trans G g0
 obtain ⟨φ1,m1,x1,g1,l1,o1⟩:=WX (enc:=enc) (w:=W) (base:=0) (spare:=fun _=>true) (held:=true) _ _ G0.ok G0.ro G0.tidy c1.toList _ f1 n1 s1 h1
 have G1:=Gx.trans G0 g1
 have L0:=LR.mono (Ph.le_trans (Ph.le_refl _) g1.le) l0
 have va0:VR φ1 (.agg (aB.c x0)) (.agg c0):=VR.agg _ _ (by rw[L0.1,Array.length_toList]) fun i x y a b=>L0.2 i x y a (by rw[Array.getElem?_toList];exact b)
 have L1:=LR.mono (Ph.le_refl _) l1
 have va1:VR φ1 (.agg (aB.c x1)) (.agg c1):=VR.agg _ _ (by rw[L1.1,Array.length_toList]) fun i x y a b=>L1.2 i x y a (by rw[Array.getElem?_toList];exact b)
 have rr:=Iw Rz abB (AN (d:=0) (h:=m1) x0 x1 (aB.mono ((Has.refl _).trans g1.has) o0) (aB.mono (Has.refl _) o1) G1.tidy)
 rw[JE x0 x1 (Pv k1 L1)] at rr
 exact FU rr G1.ok (vs:=[.agg c0,.agg c1]) (LR.cons va0 (LR.cons va1 (LR.nil _))) G1.ro
set_option maxRecDepth 100000 in
theorem lifted (os:Os) (started:os.Started) (H:Type) (enc:TypeId×Value→H):
 ReturnsInHanded {} Tryz.checked os 3 .any (Rows.worksFloorsSpec.pre6 enc Tryz.prog Tryz.f3 Rows.worksFloorsRow.domain false) (Rows.worksFloorsSpec.post enc Tryz.prog Tryz.f3 false true false false):=by
 refine returnsInHanded_of_change_sized (C:=Tryz.checked) own started (by kernel_rfl) Tryz.func3
  (ChangeSpec.witness6 (enc:=enc) (C:=Tryz.checked) false ⟨#[], #[.agg #[.slice none 0 0,.slice none 0 0],.agg #[.int .i64 0,.slice none 0 0,.int .i64 0]],[]⟩ 8 (by kernel_rfl) (by kernel_rfl) (by kernel_rfl) (by kernel_rfl)) ?_
 intro W base args ds gs before ac5 hW PZ hwt _
 have aaH:∀(j:Nat) t v,Tryz.f3.params[j]? =some t→args[j]? =some v→Value.okWide Tryz.prog W .any base t v:=ac5
 have hW':=hW
 obtain ⟨p,q,hA0,hV,rfl,_,_⟩:=hW
 have hA:DataW.TrodAll enc Tryz.prog W 0 (fun _=>true) true Tryz.f3.params.toList args.toList ds p:=hA0
 have aaI:(DataW.weightsEach Tryz.prog (Tryz.f3.params.toList++[]) (ds++gs)).all (· ≤reachBytes)=true:=hwt
 rw[params3] at hA aaI
 rw[TX] at aaH
 obtain ⟨rfl,rfl⟩:=trodVars_none hV
 obtain ⟨v0,v1,d0,d1,p0,p1,rfl,rfl,h0,h1⟩:=Pu hA
 have s0:=(Small.cN (ts:=[28]) aaI).1
 have u0:=(Small.cN (ts:=[28]) aaI).2
 have s1:=(Small.cN (ts:=[]) u0).1
 have u1:=(Small.cN (ts:=[]) u0).2
 refine (ac4 (aaH 0 25 v0 rfl rfl) (aaH 1 28 v1 rfl rfl) s0 s1 h0 h1).mono fun e W' ⟨he,hk⟩=>?_
 subst he
 refine ⟨_,rfl,[d0,d1],[],_,[],p,[],hW',trodAll_mk1 (shut_bool Tryz.underlying4 _),?_,rfl,World.keptBut_mono (fun _ h=>h.elim) hk,fun h=>by cases h⟩
 have:=Ab.D_ k2 hk Ps hA
 rw[←params3] at this
 exact this
theorem worksFloors_holds:Rows.WorksFloorsSaid:=
 OpenClaim.holds_of_wide 3 Tryz.f3 rfl rfl rfl rfl rfl rfl rfl ⟨rfl,rfl,rfl,rfl,rfl⟩ rfl rfl rfl rfl rfl Y9 Tryz.func3 closed
  (of_decide_eq_true (by kernel_rfl)) (by unfold Func.isWrapper;first | (rw[if_pos (by decide+kernel)];kernel_rfl) | (rw[if_neg (by decide+kernel)];exact ⟨rfl,rfl⟩))
  (fun os started H enc _=>lifted os started H enc)
#print axioms worksFloors_holds
end Go.Proofs.YtijehnelcbdlgaaGreat
