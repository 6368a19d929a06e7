/-
  DERIVED. GIVEN WITH THE SEED: THE CARDS: each row of YthapgpflpcffnaaGreatDoorRows.lean that lists a variable, with what it lists TIED to the program's text (the seventh form; the later family's looks); each row that meets fmt, with fmt's text TOLD by the authors' own Lean function (tested against real Go, not proved from fmt's source: count such statements apart). THE CARD IS WHAT COUNTS. Prove the row's statement (the work); the ties are given (YthapgpflpcffnaaGreatDoorTie.lean); close each card by the builder's one call (the guide's Derived/Test/ToyasCard.lean, 'card_holds'). Laid BY PROGRAM, IN A SANDBOX (cutbox-door.mjs). By AI agents, Wed Nov 11 2026. No macro, syntax, notation, axiom, sorry.
-/
import Derived.Test.YthapgpflpcffnaaGreatDoorRows
import GoSem.ClaimSeven
namespace Go.Proofs.YthapgpflpcffnaaGreatDoor
namespace Rows

/-- THE TIED CARD OF 'underpinlaw09.ClaimsSealed'. -/
def claimsSealedCard : Claim7 := { stood := { row := claimsSealedRow, standIns := [], harness := (true, "7a43b3b4de713a9944d235a80d144ccda552755dd8d86288da42cc061cb60ad8"), looks := true }, kinds := [], alts := [], laidByText := true, laidKinds := [.data, .data, .data, .data, .sentinel, .sentinel, .pinned], laidTests := true, laidLooks := .later }
def ClaimsSealedCardSaid : Prop := Claim7.holds Tryz.pinned (.plain (OpenSpec.ofChange claimsSealedSpec)) claimsSealedCard

/-- THE SECOND FORM's CARD OF 'underpinlaw09.ClaimsSealed'. -/
def claimsSealedUptoCard : Claim7 := { stood := { row := claimsSealedUptoRow, standIns := [], harness := (true, "7a43b3b4de713a9944d235a80d144ccda552755dd8d86288da42cc061cb60ad8"), looks := true }, kinds := [], alts := [], laidByText := true, laidKinds := [.data, .data, .data, .data, .sentinel, .sentinel, .pinned], laidTests := true, laidLooks := .later }
def ClaimsSealedUptoCardSaid : Prop := Claim7.holds Tryz.pinned (.plain (OpenSpec.upto claimsSealedSpec)) claimsSealedUptoCard
end Rows
end Go.Proofs.YthapgpflpcffnaaGreatDoor
