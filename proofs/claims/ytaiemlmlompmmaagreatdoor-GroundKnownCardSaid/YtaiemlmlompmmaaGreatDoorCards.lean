/-
  DERIVED. GIVEN WITH THE SEED: THE CARDS: each row of YtaiemlmlompmmaaGreatDoorRows.lean that lists a variable, with what it lists TIED to the program's text (the seventh form; the later family's looks); each row that meets fmt, with fmt's text TOLD by the authors' own Lean function (tested against real Go, not proved from fmt's source: count such statements apart). THE CARD IS WHAT COUNTS. Prove the row's statement (the work); the ties are given (YtaiemlmlompmmaaGreatDoorTie.lean); close each card by the builder's one call (the guide's Derived/Test/ToyasCard.lean, 'card_holds'). Laid BY PROGRAM, IN A SANDBOX (cutbox-door.mjs). By AI agents, Wed Nov 11 2026. No macro, syntax, notation, axiom, sorry.
-/
import Derived.Test.YtaiemlmlompmmaaGreatDoorRows
import GoSem.ClaimSeven
namespace Go.Proofs.YtaiemlmlompmmaaGreatDoor
namespace Rows

/-- THE TIED CARD OF 'underpinlaw02.GroundKnown'. -/
def groundKnownCard : Claim7 := { stood := { row := groundKnownRow, standIns := [], harness := (true, "757ce9a430c5bde55e2ffa058010fd1b453dfbeadd266412a92094b0e1b22081"), looks := true }, kinds := [], alts := [], laidByText := true, laidKinds := [.data, .data, .data, .data, .sentinel, .sentinel, .pinned], laidTests := true, laidLooks := .later }
def GroundKnownCardSaid : Prop := Claim7.holds Tryz.pinned (.plain (OpenSpec.ofChange groundKnownSpec)) groundKnownCard

/-- THE SECOND FORM's CARD OF 'underpinlaw02.GroundKnown'. -/
def groundKnownUptoCard : Claim7 := { stood := { row := groundKnownUptoRow, standIns := [], harness := (true, "757ce9a430c5bde55e2ffa058010fd1b453dfbeadd266412a92094b0e1b22081"), looks := true }, kinds := [], alts := [], laidByText := true, laidKinds := [.data, .data, .data, .data, .sentinel, .sentinel, .pinned], laidTests := true, laidLooks := .later }
def GroundKnownUptoCardSaid : Prop := Claim7.holds Tryz.pinned (.plain (OpenSpec.upto groundKnownSpec)) groundKnownUptoCard
end Rows
end Go.Proofs.YtaiemlmlompmmaaGreatDoor
