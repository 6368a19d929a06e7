/-
  PROVED HERE: the tied card of GroundKnown, out of the run of the call in each world whose listed variables hold their tables. No condition beside.
-/
import Derived.Test.YtaiemlmlompmmaaGreatDoorAbMemo
import Derived.Test.YtaiemlmlompmmaaGreatDoorFacts
import Derived.Test.YtaiemlmlompmmaaGreatDoorRows
import Derived.Test.YtaiemlmlompmmaaGreatDoorCards
import Derived.Test.YtaiemlmlompmmaaGreatDoorTie
import Derived.ProofKit
import Derived.OpenShut
import Derived.LaidMore
import Derived.Lay
import Derived.SevenTiedAt
import Derived.Stop.Joined
namespace Go.Proofs.YtaiemlmlompmmaaGreatDoor
open Go.ChangeShapes Go.WideShapes Go.ChangeAt Go.RowKit

theorem own : ownKnob Tryz.prog.godebug = none := by kernel_rfl

set_option maxRecDepth 100000 in
theorem lifted (run : ∀ W : World, laidMetH Tryz.prog Rows.groundKnownRow.laid W → Calls Tryz.prog 3 #[] W fun en w' => en = .returned (.bool true) ∧ W.keptBut w' (fun _ => False)) (os : Os) (started : os.Started) (H : Type) (enc : TypeId × Value → H) :
    ReturnsInHanded {} Tryz.checked os 3 .any (fun w args => (Rows.groundKnownSpec.pre enc Tryz.prog Tryz.f3 [] false w args ∧ laidMetH Tryz.prog Rows.groundKnownRow.laid w) ∧ sizedMet enc Tryz.prog Tryz.f3 (OpenSpec.ofChange Rows.groundKnownSpec) false w args)
      (Rows.groundKnownSpec.post enc Tryz.prog Tryz.f3 false true false false) := by
  refine returnsInHanded_of_change_and (C := Tryz.checked) (X := fun w _ => laidMetH Tryz.prog Rows.groundKnownRow.laid w) (fun _ _ _ hh h => h.of_heap hh) own started (by kernel_rfl) Tryz.func3
    (ChangeSpec.witness_shaped (enc := enc) (C := Tryz.checked) (os := os) (X := fun w _ => laidMetH Tryz.prog Rows.groundKnownRow.laid w) false (World.laidAll Tryz.prog os Rows.groundKnownRow.laid) #[] 8 (World.laidAll_os _ _ _)
      (World.shaped_of_ZipB (by kernel_rfl) (by kernel_rfl)) (by kernel_rfl) (by kernel_rfl) (by kernel_rfl)
      (by rw [MakeChecks.laidMetH_plain _ _ _ (by kernel_rfl)]; exact laidMet_laidAll _ (by kernel_rfl) (by kernel_rfl))) ?_
  intro W base args ds gs before hval0 hW hc _ hL _
  have hW' := hW
  obtain ⟨p, q, hA0, hV, rfl, _, _⟩ := hW
  have hA : DataW.TrodAll enc Tryz.prog W 0 (fun _ => true) true Tryz.f3.params.toList args.toList ds p := hA0
  rw [show Tryz.f3.params = #[] by kernel_rfl] at hA
  obtain ⟨ha, rfl, rfl⟩ := trodAll_nil hA
  obtain ⟨rfl, rfl⟩ := trodVars_none hV
  have ha : args = #[] := by simpa using ha
  subst ha
  simp only [List.append_nil] at hW'
  refine (run W hL).mono fun e W' ⟨he, hk⟩ => ?_
  subst he
  exact ⟨_, rfl, [], [], [], [], [], [], hW', trodAll_mk1 (shut_bool Tryz.underlying4 _), rfl, rfl, World.keptBut_mono (fun _ h => h.elim) hk, fun h => by cases h⟩

theorem both {a b : Bool} (h : a = true) (g : b = true) : (a && b) = true := by rw [h, g]; rfl
set_option maxRecDepth 100000 in
theorem closed : Go.joinedFacts Tryz.prog 3 Tryz.f3 Rows.groundKnownSpec Rows.groundKnownRow = true := (both (both (both (both (both (both (both (both (both (both (both (both (both (both (both (both (both (both (both (both (both (both (both (both (both (both (both (both (both (both (both k1 k2) k3) k4) k5) k6) k7) k8) k9) k10) k11) k12) k13) k14) k15) k16) k17) k18) k19) k20) k21) k22) k23) k24) k25) k26) k27) k28) k29) k30) k31) k32)
theorem named3 : Tryz.prog.funcNamed Rows.groundKnownRow.func = some 3 := by kernel_rfl
theorem row_holds (run : ∀ W : World, laidMetH Tryz.prog Rows.groundKnownRow.laid W → Calls Tryz.prog 3 #[] W fun en w' => en = .returned (.bool true) ∧ W.keptBut w' (fun _ => False)) : Rows.GroundKnownSaid :=
  OpenClaim.holds_of_wide 3 Tryz.f3 rfl rfl rfl rfl rfl rfl rfl ⟨rfl, rfl, rfl, rfl, rfl⟩ rfl rfl rfl rfl rfl named3 Tryz.func3 closed
    (of_decide_eq_true (by kernel_rfl)) (by unfold Func.isWrapper; first | (rw [if_pos (by decide +kernel)]; kernel_rfl) | (rw [if_neg (by decide +kernel)]; exact ⟨rfl, rfl⟩))
    (fun os started H enc _ => lifted run os started H enc)
theorem card_of (run : ∀ W : World, laidMetH Tryz.prog Rows.groundKnownRow.laid W → Calls Tryz.prog 3 #[] W fun en w' => en = .returned (.bool true) ∧ W.keptBut w' (fun _ => False)) : Rows.GroundKnownCardSaid :=
  Claim7.holds_tied_plain_at .later [] [.data, .data, .data, .data, .sentinel, .sentinel, .pinned] true (true, "757ce9a430c5bde55e2ffa058010fd1b453dfbeadd266412a92094b0e1b22081") true
    (row_holds run) (fun _ h => by cases h) (by kernel_rfl) (fun _ h => by cases h) groundKnown_row_tie rfl ⟨rfl, rfl⟩ (by kernel_rfl) rfl
    (fun f fn hf hfn => by
      obtain rfl : f = 3 := Option.some.inj ((show Tryz.prog.funcNamed _ = some 3 by kernel_rfl).symm.trans hf) |>.symm
      obtain rfl : fn = Tryz.f3 := (Option.some.inj (Tryz.func3.symm.trans hfn)).symm
      exact ⟨by kernel_rfl, fun j t ht => by
        rw [show Tryz.f3.params = #[] by kernel_rfl] at ht
        simp at ht⟩)
    (by kernel_rfl)
end Go.Proofs.YtaiemlmlompmmaaGreatDoor
