/-
  No cell of these rows narrows 'for every input' (looked for: loops, veiled, ifaces, maps, wideKeys, modest, calm, conditions, laid).
  DERIVED. THE GIVEN ROWS OF THIS SEAT. 4 by the template 'for every input the law returns true; each argument reads behind the call as it read before'; 0 by the template 'total and deterministic' (their statements: YtfllahfbmaafcaaTotals.lean).
  GIVEN WITH THE SEED: the statements are not yours to turn. If you find one false, say at which input.
  Laid BY PROGRAM, IN A SANDBOX (cutbox-rows.mjs): the forced cells as the released guide's own fill.sh prints them over the translation 2d75be48aea474e6… (all of the seat's roots in one cut). By AI agents, Wed Nov 11 2026. No macro, syntax, notation, axiom, sorry.
-/
import Derived.Test.YtfllahfbmaafcaaChecked
import GoSem.Claim
import GoSem.ClaimJoined
import GoSem.ClaimMapViews
import Derived.JoinedTies
import Derived.KernelRfl
namespace Go.Proofs.Ytfllahfbmaafcaa
/- THE CELL 'sum', in the pinned program and in every row, IS THE sha256 OF THE DUMP (.gsa) THAT YtfllahfbmaafcaaProg.lean LOADS. Nothing in Lean hashes anything: it is a label: what it is worth is what the hold of that sum in a sandbox is worth. -/
noncomputable def Try.pinned : Pinned := { name := "ytfllahfbmaafcaa", sum := "2d75be48aea474e670d0310105eec32f89f4bb85f8b12c091d10bd7b773181fc", checked := Try.checked }
namespace Rows
def none {H : Type} : Left H := { results := [], args := [] }

/-- 'underpinlaw07.WatchWitness': WHATEVER THE INPUT: true; the input reads as it did. -/
def watchWitnessSpec : ChangeSpec := { name := "watchWitness", fn := fun _ => fun
  | [d1, d2, d3, d4] => { results := [.lit (.bool true)], args := [d1, d2, d3, d4] }
  | _ => none }
def watchWitnessRow : OpenClaim := { program := "ytfllahfbmaafcaa", sum := "2d75be48aea474e670d0310105eec32f89f4bb85f8b12c091d10bd7b773181fc", func := "underpin/underpinlaw07.WatchWitness", spec := "watchWitness", unfollowed := true, recurses := true, apart := false }
def WatchWitnessSaid : Prop := watchWitnessRow.holds Try.pinned (OpenSpec.ofChange watchWitnessSpec)

/-- ITS FALSE NEIGHBOUR: 'it returns false'. Refute it at one input. -/
def watchWitnessWrong : ChangeSpec := { name := "watchWitness", fn := fun _ => fun
  | [d1, d2, d3, d4] => { results := [.lit (.bool false)], args := [d1, d2, d3, d4] }
  | _ => none }
def WatchWitnessWrongFalsely : Prop := watchWitnessRow.holds Try.pinned (OpenSpec.ofChange watchWitnessWrong)

/-- 'underpinlaw07.WatchShrinks': WHATEVER THE INPUT: true; the input reads as it did. -/
def watchShrinksSpec : ChangeSpec := { name := "watchShrinks", fn := fun _ => fun
  | [d1, d2, d3, d4] => { results := [.lit (.bool true)], args := [d1, d2, d3, d4] }
  | _ => none }
def watchShrinksRow : OpenClaim := { program := "ytfllahfbmaafcaa", sum := "2d75be48aea474e670d0310105eec32f89f4bb85f8b12c091d10bd7b773181fc", func := "underpin/underpinlaw07.WatchShrinks", spec := "watchShrinks", unfollowed := true, recurses := true, apart := false }
def WatchShrinksSaid : Prop := watchShrinksRow.holds Try.pinned (OpenSpec.ofChange watchShrinksSpec)

/-- ITS FALSE NEIGHBOUR: 'it returns false'. Refute it at one input. -/
def watchShrinksWrong : ChangeSpec := { name := "watchShrinks", fn := fun _ => fun
  | [d1, d2, d3, d4] => { results := [.lit (.bool false)], args := [d1, d2, d3, d4] }
  | _ => none }
def WatchShrinksWrongFalsely : Prop := watchShrinksRow.holds Try.pinned (OpenSpec.ofChange watchShrinksWrong)

/-- 'underpinlaw07.WatchSound': WHATEVER THE INPUT: true; the input reads as it did. -/
def watchSoundSpec : ChangeSpec := { name := "watchSound", fn := fun _ => fun
  | [d1, d2, d3, d4, d5] => { results := [.lit (.bool true)], args := [d1, d2, d3, d4, d5] }
  | _ => none }
def watchSoundRow : OpenClaim := { program := "ytfllahfbmaafcaa", sum := "2d75be48aea474e670d0310105eec32f89f4bb85f8b12c091d10bd7b773181fc", func := "underpin/underpinlaw07.WatchSound", spec := "watchSound", unfollowed := true, recurses := true, apart := false }
def WatchSoundSaid : Prop := watchSoundRow.holds Try.pinned (OpenSpec.ofChange watchSoundSpec)

/-- ITS FALSE NEIGHBOUR: 'it returns false'. Refute it at one input. -/
def watchSoundWrong : ChangeSpec := { name := "watchSound", fn := fun _ => fun
  | [d1, d2, d3, d4, d5] => { results := [.lit (.bool false)], args := [d1, d2, d3, d4, d5] }
  | _ => none }
def WatchSoundWrongFalsely : Prop := watchSoundRow.holds Try.pinned (OpenSpec.ofChange watchSoundWrong)

/-- 'underpinlaw07.WatchQuiet': WHATEVER THE INPUT: true; the input reads as it did. -/
def watchQuietSpec : ChangeSpec := { name := "watchQuiet", fn := fun _ => fun
  | [d1, d2, d3, d4, d5, d6, d7] => { results := [.lit (.bool true)], args := [d1, d2, d3, d4, d5, d6, d7] }
  | _ => none }
def watchQuietRow : OpenClaim := { program := "ytfllahfbmaafcaa", sum := "2d75be48aea474e670d0310105eec32f89f4bb85f8b12c091d10bd7b773181fc", func := "underpin/underpinlaw07.WatchQuiet", spec := "watchQuiet", unfollowed := true, recurses := true, apart := false }
def WatchQuietSaid : Prop := watchQuietRow.holds Try.pinned (OpenSpec.ofChange watchQuietSpec)

/-- ITS FALSE NEIGHBOUR: 'it returns false'. Refute it at one input. -/
def watchQuietWrong : ChangeSpec := { name := "watchQuiet", fn := fun _ => fun
  | [d1, d2, d3, d4, d5, d6, d7] => { results := [.lit (.bool false)], args := [d1, d2, d3, d4, d5, d6, d7] }
  | _ => none }
def WatchQuietWrongFalsely : Prop := watchQuietRow.holds Try.pinned (OpenSpec.ofChange watchQuietWrong)

/- THE SECOND FORM. 'bulk': how many values and letters a reading holds, each counted each time it is reached (what is shared counts as often as it is met; a slice's spare places count too). A statement '..UptoSaid' is the law's where the arguments, and the package variables that the reading takes, are together of bulk at most 1048576: NARROWER than '..Said'. Prove '..Said' where nothing that the law and all that it calls make is longer than what came in: it says more and counts as full. Else prove '..UptoSaid'. A law counts once. -/
mutual
def uptoBulk {H : Type} : DataW H → Nat
  | .lit (.string bytes) => bytes.length + 1
  | .lit _ => 1
  | .nil => 1
  | .ptr d => uptoBulk d + 1
  | .slice elems spare => uptoBulkAll elems + uptoBulkAll spare + 1
  | .agg parts => uptoBulkAll parts + 1
  | .iface _ d => uptoBulk d + 1
  | .map entries => uptoBulkEntries entries + 1
  | .held _ => 1
def uptoBulkAll {H : Type} : List (DataW H) → Nat
  | [] => 0
  | d :: r => uptoBulk d + uptoBulkAll r
def uptoBulkEntries {H : Type} : List (Lit × DataW H) → Nat
  | [] => 0
  | x :: r => uptoBulkEntry x + uptoBulkEntries r
def uptoBulkEntry {H : Type} : Lit × DataW H → Nat
  | (.string bytes, d) => bytes.length + uptoBulk d + 1
  | (_, d) => uptoBulk d + 1
 end
def uptoSmall : (H : Type) → List (DataW H) → Bool := fun _ ds => decide (uptoBulkAll ds ≤ 1048576)
def OpenSpec.upto (s : _root_.Go.ChangeSpec) : _root_.Go.OpenSpec := { _root_.Go.OpenSpec.ofChange s with cond := some uptoSmall }

/-- 'underpinlaw07.WatchWitness', WHERE WHAT IT READS IS OF BULK AT MOST 1048576: true; the input reads as it did. -/
def watchWitnessUptoRow : OpenClaim := { program := "ytfllahfbmaafcaa", sum := "2d75be48aea474e670d0310105eec32f89f4bb85f8b12c091d10bd7b773181fc", func := "underpin/underpinlaw07.WatchWitness", spec := "watchWitness", unfollowed := true, recurses := true, apart := false, narrowed := true }
def WatchWitnessUptoSaid : Prop := watchWitnessUptoRow.holds Try.pinned (OpenSpec.upto watchWitnessSpec)

/-- 'underpinlaw07.WatchShrinks', WHERE WHAT IT READS IS OF BULK AT MOST 1048576: true; the input reads as it did. -/
def watchShrinksUptoRow : OpenClaim := { program := "ytfllahfbmaafcaa", sum := "2d75be48aea474e670d0310105eec32f89f4bb85f8b12c091d10bd7b773181fc", func := "underpin/underpinlaw07.WatchShrinks", spec := "watchShrinks", unfollowed := true, recurses := true, apart := false, narrowed := true }
def WatchShrinksUptoSaid : Prop := watchShrinksUptoRow.holds Try.pinned (OpenSpec.upto watchShrinksSpec)

/-- 'underpinlaw07.WatchSound', WHERE WHAT IT READS IS OF BULK AT MOST 1048576: true; the input reads as it did. -/
def watchSoundUptoRow : OpenClaim := { program := "ytfllahfbmaafcaa", sum := "2d75be48aea474e670d0310105eec32f89f4bb85f8b12c091d10bd7b773181fc", func := "underpin/underpinlaw07.WatchSound", spec := "watchSound", unfollowed := true, recurses := true, apart := false, narrowed := true }
def WatchSoundUptoSaid : Prop := watchSoundUptoRow.holds Try.pinned (OpenSpec.upto watchSoundSpec)

/-- 'underpinlaw07.WatchQuiet', WHERE WHAT IT READS IS OF BULK AT MOST 1048576: true; the input reads as it did. -/
def watchQuietUptoRow : OpenClaim := { program := "ytfllahfbmaafcaa", sum := "2d75be48aea474e670d0310105eec32f89f4bb85f8b12c091d10bd7b773181fc", func := "underpin/underpinlaw07.WatchQuiet", spec := "watchQuiet", unfollowed := true, recurses := true, apart := false, narrowed := true }
def WatchQuietUptoSaid : Prop := watchQuietUptoRow.holds Try.pinned (OpenSpec.upto watchQuietSpec)

end Rows
end Go.Proofs.Ytfllahfbmaafcaa
