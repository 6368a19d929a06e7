/-
  PROVED: underpinlaw07.WatchTimes returns true at any plan and any number, and its arguments read behind the call as they read before.
  CONDITIONS: those of the given row alone. No condition beside.
  HOW: a deterministic evaluator of the program's text is proved sound once; each function's text is run by it over open values and comes to a definition in Lean that was read off the text; that the program's and the specification's definitions are equal is proved by induction.
-/
import Derived.Test.YtjpijdaopopeeaaGreatRows
import Derived.ProofKit
import Derived.OpenShut
import Derived.SizedLaws
import Derived.Test.YtjpijdaopopeeaaGreatFacts
import Derived.Test.YtjpijdaopopeeaaGreatLive
import Derived.Test.YtjpijdaopopeeaaGreatW11
namespace Go.Proofs.YtjpijdaopopeeaaGreat
open Go.ChangeShapes Go.WideShapes Go.ChangeAt Go.RowKit Ab Go.Proofs.Bench
theorem own:ownKnob Tryz.prog.godebug=none:=by kernel_rfl
theorem params3:Tryz.f3.params.toList=[26,3]:=by kernel_rfl
theorem params3a:Tryz.f3.params= #[26,3]:=by kernel_rfl
theorem readable3:∀t∈ [26,3],Tryz.prog.readableRec t=true∧t<Tryz.prog.types.size:=fun t ht=>by
 have h:t=26∨t=3:=by simpa using ht
 rcases h with rfl | rfl
 · exact ⟨by kernel_rfl,of_decide_eq_true (by kernel_rfl)⟩
 · exact ⟨by kernel_rfl,of_decide_eq_true (by kernel_rfl)⟩
theorem tidy0:Tidy (heapOf 0 []):=fun i o h=>by
 obtain ⟨x,hx,_,_⟩:=heapOf_get h
 cases hx
set_option maxRecDepth 100000
theorem runs3 {H:Type} {enc:TypeId×Value→H} {W:World} {v:Value} {z:Int} {d0:DataW H} {p0:List MemPlace} {r:Reach} {b0:Nat} (hv:Value.okWide Tryz.prog W r b0 26 v) (hs:Small 26 d0) (h1:DataW.Trod enc Tryz.prog W 0 (fun _=>true) true 26 v d0 p0):
 Calls Tryz.prog 3 #[v,.int .i64 z] W fun en w'=>en= .returned (.bool true)∧W.keptBut w' (fun _=>False):=by
 obtain ⟨cs,rfl,hsz⟩:=okWide_struct Tryz.underlying26 hv
 obtain ⟨n,h1⟩:=h1
 have hl:cs.toList.length=3:=by rw[Array.length_toList,hsz];exact cells_26
 have ok:OK env (phG 0) (heapOf 0 []) W:=OK.begin (E:=env) fun x hx=>by cases hx
 obtain ⟨φ,h,p,g,lr,okp⟩:=opens26 (enc:=enc) (w:=W) (base:=0) (spare:=fun _=>true) (held:=true) _ _ ok AllRo.begin tidy0 cs.toList _ n hl hs h1
 have rr:=callP_sound envOK M0_OK (l_WatchTimes_c (d:=0) (h:=h) p z okp g.tidy)
 rw[law_true] at rr
 have va:VR φ (.agg (RowT.c p)) (.agg cs):=VR.agg _ _ (by rw[lr.1,Array.length_toList]) fun i x y a b=>lr.2 i x y a (by rw[Array.getElem?_toList];exact b)
 exact calls_of_law rr g.ok (vs:=[.agg cs,.int .i64 z]) (LR.cons va (LR.cons (VR.int .i64 z) (LR.nil _))) g.ro
set_option maxRecDepth 100000 in
theorem lifted (os:Os) (started:os.Started) (H:Type) (enc:TypeId×Value→H):
 ReturnsInHanded {} Tryz.checked os 3 .any (Rows.watchTimesSpec.pre6 enc Tryz.prog Tryz.f3 Rows.watchTimesRow.domain false) (Rows.watchTimesSpec.post enc Tryz.prog Tryz.f3 false true false false):=by
 refine returnsInHanded_of_change_sized (C:=Tryz.checked) own started (by kernel_rfl) Tryz.func3
  (ChangeSpec.witness6 (enc:=enc) (C:=Tryz.checked) false ⟨#[], #[.agg #[.slice none 0 0,.slice none 0 0,.slice none 0 0],.int .i64 0],[]⟩ 8 (by kernel_rfl) (by kernel_rfl) (by kernel_rfl) (by kernel_rfl)) ?_
 intro W base args ds gs before hval0 hW hcnd hwt _
 have hval:∀(j:Nat) t v,Tryz.f3.params[j]? =some t→args[j]? =some v→Value.okWide Tryz.prog W .any base t v:=hval0
 have hW':=hW
 obtain ⟨p,q,hA0,hV,rfl,_,_⟩:=hW
 have hA:DataW.TrodAll enc Tryz.prog W 0 (fun _=>true) true Tryz.f3.params.toList args.toList ds p:=hA0
 have hwt':(DataW.weightsEach Tryz.prog (Tryz.f3.params.toList++[]) (ds++gs)).all (· ≤reachBytes)=true:=hwt
 rw[params3] at hA hwt'
 rw[params3a] at hval
 obtain ⟨rfl,rfl⟩:=trodVars_none hV
 obtain ⟨v0,v1,d0,d1,p0,p1,rfl,rfl,rfl,h0,h1⟩:=trodAll_two hA
 obtain ⟨z,rfl,rfl,rfl,_⟩:=open_int Tryz.underlying3 (hval 1 3 v1 rfl rfl) h1
 have hs:Small 26 d0:=(Small.uncons (ts:=[3]) hwt').1
 refine (runs3 (hval 0 26 v0 rfl rfl) hs h0).mono fun e W' ⟨he,hk⟩=>?_
 subst he
 refine ⟨_,rfl,[d0,_],[],_,[],p0++[],[],hW',trodAll_mk1 (shut_bool Tryz.underlying4 _),?_,rfl,World.keptBut_mono (fun _ h=>h.elim) hk,fun h=>by cases h⟩
 have:=Ab.args_stay k2 hk readable3 hA
 rw[←params3] at this
 exact this
theorem watchTimes_holds:Rows.WatchTimesSaid:=
 OpenClaim.holds_of_wide 3 Tryz.f3 rfl rfl rfl rfl rfl rfl rfl ⟨rfl,rfl,rfl,rfl,rfl⟩ rfl rfl rfl rfl rfl named3 Tryz.func3 closed
  (of_decide_eq_true (by kernel_rfl)) (by unfold Func.isWrapper;first | (rw[if_pos (by decide+kernel)];kernel_rfl) | (rw[if_neg (by decide+kernel)];exact ⟨rfl,rfl⟩))
  (fun os started H enc _=>lifted os started H enc)
#print axioms watchTimes_holds
end Go.Proofs.YtjpijdaopopeeaaGreat
