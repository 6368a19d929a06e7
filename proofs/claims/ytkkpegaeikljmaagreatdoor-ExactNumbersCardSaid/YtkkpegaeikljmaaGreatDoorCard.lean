import Derived.Test.YtkkpegaeikljmaaGreatDoorRows
import Derived.Test.YtkkpegaeikljmaaGreatDoorCards
import Derived.Test.YtkkpegaeikljmaaGreatDoorTie
import Derived.ProofKit
import Derived.OpenShut
import Derived.LaidMore
import Derived.Lay
import Derived.SevenTiedAt
import Derived.Stop.Joined
import Derived.Test.YtkkpegaeikljmaaGreatDoorA5
import Derived.Test.YtkkpegaeikljmaaGreatDoorFacts
namespace Go.Proofs.YtkkpegaeikljmaaGreatDoor
open Go.ChangeShapes Go.WideShapes Go.ChangeAt Go.RowKit
theorem own:ownKnob Tryz.prog.godebug=none:=by kernel_rfl
theorem params3:Tryz.f3.params.toList=[9,2]:=by kernel_rfl
theorem YA:laidOutB Tryz.prog=true:=k2
theorem VD:∀t∈ [9,2],Tryz.prog.readableRec t=true∧t<Tryz.prog.types.size:=fun t ht=>by
 have h:t=9∨t=2:=by simpa using ht
 rcases h with rfl | rfl
 · exact ⟨by kernel_rfl,of_decide_eq_true (by kernel_rfl)⟩
 · exact ⟨by kernel_rfl,of_decide_eq_true (by kernel_rfl)⟩
def afR:Prop:=∀(W:World) (H:Type) (enc:TypeId×Value→H) (args:Array Value) (ds:List (DataW H)) (p:List MemPlace) (base:Nat),(∀(j:Nat) t v,Tryz.f3.params[j]? =some t→args[j]? =some v→Value.okWide Tryz.prog W .any base t v)→(DataW.weightsEach Tryz.prog (Tryz.f3.params.toList++Rows.exactNumbersSpec.plain.varTypes Tryz.prog) (ds++[])).all (· ≤reachBytes)=true→DataW.TrodAll enc Tryz.prog W 0 (fun _=>true) true [9,2] args.toList ds p→laidMetH Tryz.prog Rows.exactNumbersRow.laid W→
 Calls Tryz.prog 3 args W fun en w'=>en= .returned (.bool true)∧W.keptBut w' (fun _=>False)
set_option maxRecDepth 100000 in
theorem lifted (run:afR) (os:Os) (started:os.Started) (H:Type) (enc:TypeId×Value→H):
 ReturnsInHanded {} Tryz.checked os 3 .any (fun w args=>(Rows.exactNumbersSpec.pre enc Tryz.prog Tryz.f3 [] false w args∧laidMetH Tryz.prog Rows.exactNumbersRow.laid w)∧sizedMet enc Tryz.prog Tryz.f3 (OpenSpec.ofChange Rows.exactNumbersSpec) false w args)
  (Rows.exactNumbersSpec.post enc Tryz.prog Tryz.f3 false true false false):=by
 refine returnsInHanded_of_change_and (C:=Tryz.checked) (X:=fun w _=>laidMetH Tryz.prog Rows.exactNumbersRow.laid w) (fun _ _ _ hh h=>h.of_heap hh) own started (by kernel_rfl) Tryz.func3
  (ChangeSpec.witness_shaped (enc:=enc) (C:=Tryz.checked) (os:=os) (X:=fun w _=>laidMetH Tryz.prog Rows.exactNumbersRow.laid w) false (World.laidAll Tryz.prog os Rows.exactNumbersRow.laid) #[.string ByteArray.empty,.int .i64 0] 8 (World.laidAll_os _ _ _)
   (World.shaped_of_ZipB (by kernel_rfl) (by kernel_rfl)) (by kernel_rfl) (by kernel_rfl) (by kernel_rfl)
   (by rw[MakeChecks.laidMetH_plain _ _ _ (by kernel_rfl)];exact laidMet_laidAll _ (by kernel_rfl) (by kernel_rfl))) ?_
 intro W base args ds gs before ah1 hW hc hwt hL _
 have hW':=hW
 obtain ⟨p,q,oC,hV,rfl,_,_⟩:=hW
 have hA:DataW.TrodAll enc Tryz.prog W 0 (fun _=>true) true Tryz.f3.params.toList args.toList ds p:=oC
 rw[params3] at hA
 obtain ⟨rfl,rfl⟩:=trodVars_none hV
 have hl:=(trodAll_length hA).2
 obtain ⟨d0,d1,rfl⟩:∃d0 d1,ds=[d0,d1]:=by
  match ds,hl with
  | [d0,d1],_=>exact ⟨d0,d1,rfl⟩
 refine (run W H enc args _ p base ah1 hwt hA hL).mono fun e W' ⟨he,hk⟩=>?_
 subst he
 refine ⟨_,rfl,[d0,d1],[],_,[],p,[],hW',trodAll_mk1 (shut_bool Tryz.underlying4 _),?_,rfl,World.keptBut_mono (fun _ h=>h.elim) hk,fun h=>by cases h⟩
 have:=Ab.Jg YA hk VD hA
 rw[←params3] at this
 exact this
theorem VE (run:afR):Rows.ExactNumbersSaid:=
 OpenClaim.holds_of_wide 3 Tryz.f3 rfl rfl rfl rfl rfl rfl rfl ⟨rfl,rfl,rfl,rfl,rfl⟩ rfl rfl rfl rfl rfl afQ Tryz.func3 closed
  (of_decide_eq_true (by kernel_rfl)) (by unfold Func.isWrapper;first | (rw[if_pos (by decide+kernel)];kernel_rfl) | (rw[if_neg (by decide+kernel)];exact ⟨rfl,rfl⟩))
  (fun os started H enc _=>lifted run os started H enc)
theorem afS:Tryz.prog.wantsStandIn 9=false:=by kernel_rfl
theorem afT:Tryz.prog.wantsStandIn 2=false:=by kernel_rfl
theorem acF (run:afR):Rows.ExactNumbersCardSaid:=
 Claim7.holds_tied_plain_at .later [] [.data,.data,.data,.data,.pinned] true (true, "21af6be2179b9f3cdaae65fe3562e0069f4b51d8f7e0754bbc4421c377ebc00f") true
  (VE run) (fun _ h=>by cases h) (by kernel_rfl) (fun _ h=>by cases h) exactNumbers_row_tie rfl ⟨rfl,rfl⟩ (by kernel_rfl) rfl
  (fun f fn hf E_=>by
   obtain rfl:f=3:=Option.some.inj ((show Tryz.prog.funcNamed _=some 3 by kernel_rfl).symm.trans hf)|>.symm
   obtain rfl:fn=Tryz.f3:=(Option.some.inj (Tryz.func3.symm.trans E_)).symm
   exact ⟨by kernel_rfl,fun j t ht=>by
    rw[show Tryz.f3.params= #[9,2] by kernel_rfl] at ht
    have hm:t∈ [9,2]:=by rw[show ([9,2]:List TypeId)=(#[9,2]:Array TypeId).toList from rfl];exact Array.mem_toList_iff.2 (Array.mem_of_getElem? ht)
    have hm:t=9∨t=2:=by simpa using hm
    rcases hm with rfl | rfl
    · exact afS
    · exact afT⟩)
  (by kernel_rfl)
end Go.Proofs.YtkkpegaeikljmaaGreatDoor
