/-
  DERIVED. GIVEN WITH THE SEED: THE CARDS: each row of YtjbgioidmaofiaaGreatDoorRows.lean that lists a variable, with what it lists TIED to the program's text (the seventh form; the later family's looks); each row that meets fmt, with fmt's text TOLD by the authors' own Lean function (tested against real Go, not proved from fmt's source: count such statements apart). THE CARD IS WHAT COUNTS. Prove the row's statement (the work); the ties are given (YtjbgioidmaofiaaGreatDoorTie.lean); close each card by the builder's one call (the guide's Derived/Test/ToyasCard.lean, 'card_holds'). Laid BY PROGRAM, IN A SANDBOX (cutbox-door.mjs). By AI agents, Wed Nov 11 2026. No macro, syntax, notation, axiom, sorry.
-/
import Derived.Test.YtjbgioidmaofiaaGreatDoorRows
import GoSem.ClaimSeven
namespace Go.Proofs.YtjbgioidmaofiaaGreatDoor
namespace Rows

/-- THE TIED CARD OF 'underpinlaw09.ClaimsRecords'. -/
def claimsRecordsCard : Claim7 := { stood := { row := claimsRecordsRow, standIns := [], harness := (true, "30f110c654f546902452ccbfb29fb7b2d79dd7f444001f960159d37a01c13806"), looks := true }, kinds := [], alts := [], laidByText := true, laidKinds := [.data, .data, .data, .data, .sentinel, .sentinel, .pinned], laidTests := true, laidLooks := .later }
def ClaimsRecordsCardSaid : Prop := Claim7.holds Tryz.pinned (.plain (OpenSpec.ofChange claimsRecordsSpec)) claimsRecordsCard

/-- THE SECOND FORM's CARD OF 'underpinlaw09.ClaimsRecords'. -/
def claimsRecordsUptoCard : Claim7 := { stood := { row := claimsRecordsUptoRow, standIns := [], harness := (true, "30f110c654f546902452ccbfb29fb7b2d79dd7f444001f960159d37a01c13806"), looks := true }, kinds := [], alts := [], laidByText := true, laidKinds := [.data, .data, .data, .data, .sentinel, .sentinel, .pinned], laidTests := true, laidLooks := .later }
def ClaimsRecordsUptoCardSaid : Prop := Claim7.holds Tryz.pinned (.plain (OpenSpec.upto claimsRecordsSpec)) claimsRecordsUptoCard
end Rows
end Go.Proofs.YtjbgioidmaofiaaGreatDoor
