/-
  PROVED: underpinlaw02.GroundKnown, the examples of chapter 2, returns true (it has no argument), and all memory that lay before the call reads behind it as it did.
  CONDITIONS: those of the given card alone (the package-level variables that the row lists hold what the program's text lays in them; the card ties them). No condition beside.
  HOW: a deterministic evaluator of the program's text is proved sound once; a fast form of it is proved to be the same; the kernel runs it over the whole call, in parts: what a call inside comes to from the memory that it needs is run on its own, and taken for known where the longer run meets that call.
-/
import Derived.Test.YtaiemlmlompmmaaGreatDoorEnv
import Derived.Test.YtaiemlmlompmmaaGreatDoorCard
import Derived.Test.YtaiemlmlompmmaaGreatDoorPart0
import Derived.Test.YtaiemlmlompmmaaGreatDoorPart1
import Derived.Test.YtaiemlmlompmmaaGreatDoorPart2
import Derived.Test.YtaiemlmlompmmaaGreatDoorPart3
import Derived.Test.YtaiemlmlompmmaaGreatDoorPart4
import Derived.Test.YtaiemlmlompmmaaGreatDoorPart5
import Derived.Test.YtaiemlmlompmmaaGreatDoorPart6
import Derived.Test.YtaiemlmlompmmaaGreatDoorPart7
import Derived.Test.YtaiemlmlompmmaaGreatDoorPart8
import Derived.Test.YtaiemlmlompmmaaGreatDoorPart11
namespace Go.Proofs.YtaiemlmlompmmaaGreatDoor
open Ab Ab.Fa
theorem none_of {E : Env} : ∀ e ∈ ([] : List Ent), EntOK E e := fun _ h => by cases h
theorem more {E : Env} {x : Ent} {l : List Ent} (h : EntOK E x) (hl : ∀ e ∈ l, EntOK E e) : ∀ e ∈ x :: l, EntOK E e := fun e he => by
  rcases List.mem_cons.1 he with rfl | he
  · exact h
  · exact hl e he
theorem o1 : EntOK env e27_3468 := EntOK.of_part envOK none_of p_e27_3468
theorem o2 : EntOK env e115_16169 := EntOK.of_part envOK none_of p_e115_16169
theorem o3 : EntOK env e27_13774 := EntOK.of_part envOK (more o2 none_of) p_e27_13774
theorem o4 : EntOK env e27_25830 := EntOK.of_part envOK none_of p_e27_25830
theorem o5 : EntOK env e27_34046 := EntOK.of_part envOK none_of p_e27_34046
theorem o6 : EntOK env e27_41654 := EntOK.of_part envOK none_of p_e27_41654
theorem o7 : EntOK env e27_51658 := EntOK.of_part envOK none_of p_e27_51658
theorem o8 : EntOK env e11_24524 := EntOK.of_part envOK (more o4 (more o5 (more o6 none_of))) p_e11_24524
theorem o9 : EntOK env e13_49716 := EntOK.of_part envOK (more o7 none_of) p_e13_49716
theorem o10 : EntOK env e9_12180 := EntOK.of_part envOK (more o3 none_of) p_e9_12180
theorem o11 : EntOK env e9_2343 := EntOK.of_part envOK (more o1 none_of) p_e9_2343
theorem groundKnown_holds : Rows.GroundKnownCardSaid := card_of fun W _ =>
  closed_parts envOK (more o11 (more o10 (more o8 (more o9 none_of)))) (fuel := 1000000) (d := 60) (l := []) (by show 10 ≤ 2 ^ depth; decide) (fun x hx => by cases hx) runs
#print axioms groundKnown_holds
end Go.Proofs.YtaiemlmlompmmaaGreatDoor
