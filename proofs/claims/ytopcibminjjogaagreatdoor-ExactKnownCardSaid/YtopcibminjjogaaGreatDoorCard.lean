/-
  PROVED HERE: the tied card of ExactKnown, out of the run of the call in each world whose listed variables hold their tables. No condition beside.
-/
import Derived.Test.YtopcibminjjogaaGreatDoorAbEnd
import Derived.Test.YtopcibminjjogaaGreatDoorRows
import Derived.Test.YtopcibminjjogaaGreatDoorCards
import Derived.Test.YtopcibminjjogaaGreatDoorTie
import Derived.ProofKit
import Derived.OpenShut
import Derived.LaidMore
import Derived.Lay
import Derived.SevenTiedAt
import Derived.Stop.Joined
namespace Go.Proofs.YtopcibminjjogaaGreatDoor
open Go.ChangeShapes Go.WideShapes Go.ChangeAt Go.RowKit

theorem own : ownKnob Tryz.prog.godebug = none := by kernel_rfl

def tab32 : Ab.Tab := ⟨6, .u8, [0,1,28,2,29,14,24,3,30,22,20,15,25,17,4,8,31,27,13,23,21,19,16,7,26,12,18,6,11,5,10,9], 323⟩
def tab64 : Ab.Tab := ⟨7, .u8, [0,1,56,2,57,49,28,3,61,58,42,50,38,29,17,4,62,47,59,36,45,43,51,22,53,39,33,30,24,18,12,5,63,55,48,27,60,41,37,16,46,35,44,21,52,32,23,11,54,26,40,15,34,20,31,10,25,14,19,9,13,8,7,6], 324⟩
def tabTen : Ab.Tab := ⟨3, .u64, [1,10,100,1000,10000,100000,1000000,10000000,100000000,1000000000,10000000000,100000000000,1000000000000,10000000000000,100000000000000,1000000000000000,10000000000000000,100000000000000000,1000000000000000000,10000000000000000000], 296⟩

set_option maxRecDepth 100000 in
theorem tabs_of {W : World} (h : laidMetH Tryz.prog Rows.exactKnownRow.laid W) : Ab.TabOK W tab32 ∧ Ab.TabOK W tab64 ∧ Ab.TabOK W tabTen := by
  rw [MakeChecks.laidMetH_plain _ _ _ (by kernel_rfl)] at h
  obtain ⟨ps, ⟨g0, t0, cs0, f0, p0, q0, hg0, ht0, hv0, hd0, ⟨g1, t1, cs1, f1, p1, q1, hg1, ht1, hv1, hd1, ⟨g2, t2, cs2, f2, p2, q2, hg2, ht2, hv2, hd2, _, _⟩, _⟩, _⟩, _, _⟩ := h
  obtain rfl := Option.some.inj ((show Tryz.prog.globalNamed _ = some 6 by kernel_rfl).symm.trans hg0)
  obtain rfl := Option.some.inj ((show (Tryz.prog.globals[6]?).map (·.type) = some 323 by kernel_rfl).symm.trans ht0)
  obtain rfl := Option.some.inj ((show Tryz.prog.globalNamed _ = some 7 by kernel_rfl).symm.trans hg1)
  obtain rfl := Option.some.inj ((show (Tryz.prog.globals[7]?).map (·.type) = some 324 by kernel_rfl).symm.trans ht1)
  obtain rfl := Option.some.inj ((show Tryz.prog.globalNamed _ = some 3 by kernel_rfl).symm.trans hg2)
  obtain rfl := Option.some.inj ((show (Tryz.prog.globals[3]?).map (·.type) = some 296 by kernel_rfl).symm.trans ht2)
  exact ⟨Ab.tab_of_laid hg0 hv0 (ns := tab32.ns) Tryz.underlying323 Tryz.underlying5 (by kernel_rfl) (by kernel_rfl) hd0 rfl _,
    Ab.tab_of_laid hg1 hv1 (ns := tab64.ns) Tryz.underlying324 Tryz.underlying5 (by kernel_rfl) (by kernel_rfl) hd1 rfl _,
    Ab.tab_of_laid hg2 hv2 (ns := tabTen.ns) Tryz.underlying296 Tryz.underlying67 (by kernel_rfl) (by kernel_rfl) hd2 rfl _⟩

set_option maxRecDepth 100000 in
theorem lifted (run : ∀ W : World, laidMetH Tryz.prog Rows.exactKnownRow.laid W → Calls Tryz.prog 3 #[] W fun en w' => en = .returned (.bool true) ∧ W.keptBut w' (fun _ => False)) (os : Os) (started : os.Started) (H : Type) (enc : TypeId × Value → H) :
    ReturnsInHanded {} Tryz.checked os 3 .any (fun w args => (Rows.exactKnownSpec.pre enc Tryz.prog Tryz.f3 [] false w args ∧ laidMetH Tryz.prog Rows.exactKnownRow.laid w) ∧ sizedMet enc Tryz.prog Tryz.f3 (OpenSpec.ofChange Rows.exactKnownSpec) false w args)
      (Rows.exactKnownSpec.post enc Tryz.prog Tryz.f3 false true false false) := by
  refine returnsInHanded_of_change_and (C := Tryz.checked) (X := fun w _ => laidMetH Tryz.prog Rows.exactKnownRow.laid w) (fun _ _ _ hh h => h.of_heap hh) own started (by kernel_rfl) Tryz.func3
    (ChangeSpec.witness_shaped (enc := enc) (C := Tryz.checked) (os := os) (X := fun w _ => laidMetH Tryz.prog Rows.exactKnownRow.laid w) false (World.laidAll Tryz.prog os Rows.exactKnownRow.laid) #[] 8 (World.laidAll_os _ _ _)
      (World.shaped_of_ZipB (by kernel_rfl) (by kernel_rfl)) (by kernel_rfl) (by kernel_rfl) (by kernel_rfl)
      (by rw [MakeChecks.laidMetH_plain _ _ _ (by kernel_rfl)]; exact laidMet_laidAll _ (by kernel_rfl) (by kernel_rfl))) ?_
  intro W base args ds gs before hval0 hW hc _ hL _
  have hW' := hW
  obtain ⟨p, q, hA0, hV, rfl, _, _⟩ := hW
  have hA : DataW.TrodAll enc Tryz.prog W 0 (fun _ => true) true Tryz.f3.params.toList args.toList ds p := hA0
  rw [show Tryz.f3.params = #[] by kernel_rfl] at hA
  obtain ⟨ha, rfl, rfl⟩ := trodAll_nil hA
  obtain ⟨rfl, rfl⟩ := trodVars_none hV
  have ha : args = #[] := by simpa using ha
  subst ha
  simp only [List.append_nil] at hW'
  refine (run W hL).mono fun e W' ⟨he, hk⟩ => ?_
  subst he
  exact ⟨_, rfl, [], [], [], [], [], [], hW', trodAll_mk1 (shut_bool Tryz.underlying4 _), rfl, rfl, World.keptBut_mono (fun _ h => h.elim) hk, fun h => by cases h⟩

theorem row_holds (run : ∀ W : World, laidMetH Tryz.prog Rows.exactKnownRow.laid W → Calls Tryz.prog 3 #[] W fun en w' => en = .returned (.bool true) ∧ W.keptBut w' (fun _ => False)) : Rows.ExactKnownSaid :=
  OpenClaim.holds_of_wide 3 Tryz.f3 rfl rfl rfl rfl rfl rfl rfl ⟨rfl, rfl, rfl, rfl, rfl⟩ rfl rfl rfl rfl rfl (by kernel_rfl) Tryz.func3 (by kernel_rfl)
    (of_decide_eq_true (by kernel_rfl)) (by unfold Func.isWrapper; first | (rw [if_pos (by decide +kernel)]; kernel_rfl) | (rw [if_neg (by decide +kernel)]; exact ⟨rfl, rfl⟩))
    (fun os started H enc _ => lifted run os started H enc)
theorem card_of (run : ∀ W : World, laidMetH Tryz.prog Rows.exactKnownRow.laid W → Calls Tryz.prog 3 #[] W fun en w' => en = .returned (.bool true) ∧ W.keptBut w' (fun _ => False)) : Rows.ExactKnownCardSaid :=
  Claim7.holds_tied_plain_at .later [] [.data, .data, .data, .data, .pinned] true (true, "f60d208a4e5b3fcd48630e3a63d5b6f9430961530097aa8134abd9f1913bacf6") true
    (row_holds run) (fun _ h => by cases h) (by kernel_rfl) (fun _ h => by cases h) exactKnown_row_tie rfl ⟨rfl, rfl⟩ (by kernel_rfl) rfl
    (fun f fn hf hfn => by
      obtain rfl : f = 3 := Option.some.inj ((show Tryz.prog.funcNamed _ = some 3 by kernel_rfl).symm.trans hf) |>.symm
      obtain rfl : fn = Tryz.f3 := (Option.some.inj (Tryz.func3.symm.trans hfn)).symm
      exact ⟨by kernel_rfl, fun j t ht => by
        rw [show Tryz.f3.params = #[] by kernel_rfl] at ht
        simp at ht⟩)
    (by kernel_rfl)
end Go.Proofs.YtopcibminjjogaaGreatDoor
