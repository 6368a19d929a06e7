/-
  DERIVED. GIVEN WITH THE SEED: THE CARDS: each row of YtopcibminjjogaaGreatDoorRows.lean that lists a variable, with what it lists TIED to the program's text (the seventh form; the later family's looks); each row that meets fmt, with fmt's text TOLD by the authors' own Lean function (tested against real Go, not proved from fmt's source: count such statements apart). THE CARD IS WHAT COUNTS. Prove the row's statement (the work); the ties are given (YtopcibminjjogaaGreatDoorTie.lean); close each card by the builder's one call (the guide's Derived/Test/ToyasCard.lean, 'card_holds'). Laid BY PROGRAM, IN A SANDBOX (cutbox-door.mjs). By AI agents, Wed Nov 11 2026. No macro, syntax, notation, axiom, sorry.
-/
import Derived.Test.YtopcibminjjogaaGreatDoorRows
import GoSem.ClaimSeven
namespace Go.Proofs.YtopcibminjjogaaGreatDoor
namespace Rows

/-- THE TIED CARD OF 'underpinlaw01.ExactKnown'. -/
def exactKnownCard : Claim7 := { stood := { row := exactKnownRow, standIns := [], harness := (true, "f60d208a4e5b3fcd48630e3a63d5b6f9430961530097aa8134abd9f1913bacf6"), looks := true }, kinds := [], alts := [], laidByText := true, laidKinds := [.data, .data, .data, .data, .pinned], laidTests := true, laidLooks := .later }
def ExactKnownCardSaid : Prop := Claim7.holds Tryz.pinned (.plain (OpenSpec.ofChange exactKnownSpec)) exactKnownCard

/-- THE SECOND FORM's CARD OF 'underpinlaw01.ExactKnown'. -/
def exactKnownUptoCard : Claim7 := { stood := { row := exactKnownUptoRow, standIns := [], harness := (true, "f60d208a4e5b3fcd48630e3a63d5b6f9430961530097aa8134abd9f1913bacf6"), looks := true }, kinds := [], alts := [], laidByText := true, laidKinds := [.data, .data, .data, .data, .pinned], laidTests := true, laidLooks := .later }
def ExactKnownUptoCardSaid : Prop := Claim7.holds Tryz.pinned (.plain (OpenSpec.upto exactKnownSpec)) exactKnownUptoCard
end Rows
end Go.Proofs.YtopcibminjjogaaGreatDoor
