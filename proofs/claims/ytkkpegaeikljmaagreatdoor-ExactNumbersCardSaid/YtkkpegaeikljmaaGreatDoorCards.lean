/-
  DERIVED. GIVEN WITH THE SEED: THE CARDS: each row of YtkkpegaeikljmaaGreatDoorRows.lean that lists a variable, with what it lists TIED to the program's text (the seventh form; the later family's looks); each row that meets fmt, with fmt's text TOLD by the authors' own Lean function (tested against real Go, not proved from fmt's source: count such statements apart). THE CARD IS WHAT COUNTS. Prove the row's statement (the work); the ties are given (YtkkpegaeikljmaaGreatDoorTie.lean); close each card by the builder's one call (the guide's Derived/Test/ToyasCard.lean, 'card_holds'). Laid BY PROGRAM, IN A SANDBOX (cutbox-door.mjs). By AI agents, Wed Nov 11 2026. No macro, syntax, notation, axiom, sorry.
-/
import Derived.Test.YtkkpegaeikljmaaGreatDoorRows
import GoSem.ClaimSeven
namespace Go.Proofs.YtkkpegaeikljmaaGreatDoor
namespace Rows

/-- THE TIED CARD OF 'underpinlaw01.ExactNumbers'. -/
def exactNumbersCard : Claim7 := { stood := { row := exactNumbersRow, standIns := [], harness := (true, "21af6be2179b9f3cdaae65fe3562e0069f4b51d8f7e0754bbc4421c377ebc00f"), looks := true }, kinds := [], alts := [], laidByText := true, laidKinds := [.data, .data, .data, .data, .pinned], laidTests := true, laidLooks := .later }
def ExactNumbersCardSaid : Prop := Claim7.holds Tryz.pinned (.plain (OpenSpec.ofChange exactNumbersSpec)) exactNumbersCard

/-- THE SECOND FORM's CARD OF 'underpinlaw01.ExactNumbers'. -/
def exactNumbersUptoCard : Claim7 := { stood := { row := exactNumbersUptoRow, standIns := [], harness := (true, "21af6be2179b9f3cdaae65fe3562e0069f4b51d8f7e0754bbc4421c377ebc00f"), looks := true }, kinds := [], alts := [], laidByText := true, laidKinds := [.data, .data, .data, .data, .pinned], laidTests := true, laidLooks := .later }
def ExactNumbersUptoCardSaid : Prop := Claim7.holds Tryz.pinned (.plain (OpenSpec.upto exactNumbersSpec)) exactNumbersUptoCard
end Rows
end Go.Proofs.YtkkpegaeikljmaaGreatDoor
