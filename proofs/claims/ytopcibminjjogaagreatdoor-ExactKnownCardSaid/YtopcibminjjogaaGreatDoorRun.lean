/-
  PROVED: underpinlaw01.ExactKnown, the examples of chapter 1, returns true (it has no argument), and all memory that lay before the call reads behind it as it did.
  CONDITIONS: those of the given card alone: the five tables of Go's library that the row lists hold what the program's text lays in them (the card ties them). No condition beside.
  HOW: a deterministic evaluator of the program's text is proved sound once; a fast form of it is proved to be the same; the kernel runs it over the whole call.
-/
import Derived.Test.YtopcibminjjogaaGreatDoorEnv
namespace Go.Proofs.YtopcibminjjogaaGreatDoor
open Ab
set_option maxRecDepth 100000 in
theorem runs : endsTrue (Fa.callC env 60 1000000 (.fn 3) [] (heapOf 8 [tab32, tab64, tabTen])) = true := by kernel_rfl
theorem exactKnown_holds : Rows.ExactKnownCardSaid := card_of fun W hL => by
  obtain ⟨h1, h2, h3⟩ := tabs_of hL
  refine closed_calls envOK (fuel := 1000000) (d := 60) (l := [tab32, tab64, tabTen]) (by show 8 ≤ 2 ^ depth; decide) (fun x hx => ?_) runs
  simp only [List.mem_cons, List.not_mem_nil, or_false] at hx
  rcases hx with rfl | rfl | rfl
  · exact ⟨by decide, h1⟩
  · exact ⟨by decide, h2⟩
  · exact ⟨by decide, h3⟩
#print axioms exactKnown_holds
end Go.Proofs.YtopcibminjjogaaGreatDoor
