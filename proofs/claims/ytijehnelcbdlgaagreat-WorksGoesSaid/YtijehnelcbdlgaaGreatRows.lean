/-
  No cell of these rows narrows 'for every input' (looked for: loops, veiled, ifaces, maps, wideKeys, modest, calm, conditions, laid).
  DERIVED. THE GIVEN ROWS OF THIS SEAT. 3 by the template 'for every input the law returns true; each argument reads behind the call as it read before'; 0 by the template 'total and deterministic' (their statements: YtijehnelcbdlgaaGreatTotals.lean).
  GIVEN WITH THE SEED: the statements are not yours to turn. If you find one false, say at which input.
  Laid BY PROGRAM, IN A SANDBOX (cutbox-rows.mjs): the forced cells as the released guide's own fill.sh prints them over the translation 3368a562d2f74091… (all of the seat's roots in one cut). By AI agents, Wed Nov 11 2026. No macro, syntax, notation, axiom, sorry.
-/
import Derived.Test.YtijehnelcbdlgaaGreatChecked
import GoSem.Claim
import GoSem.ClaimJoined
import GoSem.ClaimMapViews
import Derived.JoinedTies
import Derived.KernelRfl
namespace Go.Proofs.YtijehnelcbdlgaaGreat
/- THE CELL 'sum', in the pinned program and in every row, IS THE sha256 OF THE DUMP (.gsa) THAT YtijehnelcbdlgaaGreatProg.lean LOADS. Nothing in Lean hashes anything: it is a label: what it is worth is what the hold of that sum in a sandbox is worth. -/
noncomputable def Tryz.pinned : Pinned := { name := "ytijehnelcbdlgaagreat", sum := "3368a562d2f740913bd9c2ca7b182705544d472d12f6df4f31aba4d32868e8b5", checked := Tryz.checked }
namespace Rows
def none {H : Type} : Left H := { results := [], args := [] }

/-- 'underpinlaw08.WorksFloors': WHATEVER THE INPUT: true; the input reads as it did. -/
def worksFloorsSpec : ChangeSpec := { name := "worksFloors", fn := fun _ => fun
  | [d1, d2] => { results := [.lit (.bool true)], args := [d1, d2] }
  | _ => none }
def worksFloorsRow : OpenClaim := { program := "ytijehnelcbdlgaagreat", sum := "3368a562d2f740913bd9c2ca7b182705544d472d12f6df4f31aba4d32868e8b5", func := "underpin/underpinlaw08.WorksFloors", spec := "worksFloors", unfollowed := true, recurses := true, plainKeys := false, apart := false }
def WorksFloorsSaid : Prop := worksFloorsRow.holds Tryz.pinned (OpenSpec.ofChange worksFloorsSpec)

/-- ITS FALSE NEIGHBOUR: 'it returns false'. Refute it at one input. -/
def worksFloorsWrong : ChangeSpec := { name := "worksFloors", fn := fun _ => fun
  | [d1, d2] => { results := [.lit (.bool false)], args := [d1, d2] }
  | _ => none }
def WorksFloorsWrongFalsely : Prop := worksFloorsRow.holds Tryz.pinned (OpenSpec.ofChange worksFloorsWrong)

/-- 'underpinlaw08.WorksFails': WHATEVER THE INPUT: true; the input reads as it did. -/
def worksFailsSpec : ChangeSpec := { name := "worksFails", fn := fun _ => fun
  | [d1, d2, d3, d4, d5] => { results := [.lit (.bool true)], args := [d1, d2, d3, d4, d5] }
  | _ => none }
def worksFailsRow : OpenClaim := { program := "ytijehnelcbdlgaagreat", sum := "3368a562d2f740913bd9c2ca7b182705544d472d12f6df4f31aba4d32868e8b5", func := "underpin/underpinlaw08.WorksFails", spec := "worksFails", unfollowed := true, recurses := true, plainKeys := false, apart := false }
def WorksFailsSaid : Prop := worksFailsRow.holds Tryz.pinned (OpenSpec.ofChange worksFailsSpec)

/-- ITS FALSE NEIGHBOUR: 'it returns false'. Refute it at one input. -/
def worksFailsWrong : ChangeSpec := { name := "worksFails", fn := fun _ => fun
  | [d1, d2, d3, d4, d5] => { results := [.lit (.bool false)], args := [d1, d2, d3, d4, d5] }
  | _ => none }
def WorksFailsWrongFalsely : Prop := worksFailsRow.holds Tryz.pinned (OpenSpec.ofChange worksFailsWrong)

/-- 'underpinlaw08.WorksGoes': WHATEVER THE INPUT: true; the input reads as it did. -/
def worksGoesSpec : ChangeSpec := { name := "worksGoes", fn := fun _ => fun
  | [d1, d2, d3, d4, d5] => { results := [.lit (.bool true)], args := [d1, d2, d3, d4, d5] }
  | _ => none }
def worksGoesRow : OpenClaim := { program := "ytijehnelcbdlgaagreat", sum := "3368a562d2f740913bd9c2ca7b182705544d472d12f6df4f31aba4d32868e8b5", func := "underpin/underpinlaw08.WorksGoes", spec := "worksGoes", unfollowed := true, recurses := true, plainKeys := false, apart := false }
def WorksGoesSaid : Prop := worksGoesRow.holds Tryz.pinned (OpenSpec.ofChange worksGoesSpec)

/-- ITS FALSE NEIGHBOUR: 'it returns false'. Refute it at one input. -/
def worksGoesWrong : ChangeSpec := { name := "worksGoes", fn := fun _ => fun
  | [d1, d2, d3, d4, d5] => { results := [.lit (.bool false)], args := [d1, d2, d3, d4, d5] }
  | _ => none }
def WorksGoesWrongFalsely : Prop := worksGoesRow.holds Tryz.pinned (OpenSpec.ofChange worksGoesWrong)

/- THE SECOND FORM. 'bulk': how many values and letters a reading holds, each counted each time it is reached (what is shared counts as often as it is met; a slice's spare places count too). A statement '..UptoSaid' is the law's where the arguments, and the package variables that the reading takes, are together of bulk at most 1048576: NARROWER than '..Said'. Prove '..Said' where nothing that the law and all that it calls make is longer than what came in: it says more and counts as full. Else prove '..UptoSaid'. A law counts once. -/
mutual
def uptoBulk {H : Type} : DataW H → Nat
  | .lit (.string bytes) => bytes.length + 1
  | .lit _ => 1
  | .nil => 1
  | .ptr d => uptoBulk d + 1
  | .slice elems spare => uptoBulkAll elems + uptoBulkAll spare + 1
  | .agg parts => uptoBulkAll parts + 1
  | .iface _ d => uptoBulk d + 1
  | .map entries => uptoBulkEntries entries + 1
  | .held _ => 1
def uptoBulkAll {H : Type} : List (DataW H) → Nat
  | [] => 0
  | d :: r => uptoBulk d + uptoBulkAll r
def uptoBulkEntries {H : Type} : List (Lit × DataW H) → Nat
  | [] => 0
  | x :: r => uptoBulkEntry x + uptoBulkEntries r
def uptoBulkEntry {H : Type} : Lit × DataW H → Nat
  | (.string bytes, d) => bytes.length + uptoBulk d + 1
  | (_, d) => uptoBulk d + 1
 end
def uptoSmall : (H : Type) → List (DataW H) → Bool := fun _ ds => decide (uptoBulkAll ds ≤ 1048576)
def OpenSpec.upto (s : _root_.Go.ChangeSpec) : _root_.Go.OpenSpec := { _root_.Go.OpenSpec.ofChange s with cond := some uptoSmall }

/-- 'underpinlaw08.WorksFloors', WHERE WHAT IT READS IS OF BULK AT MOST 1048576: true; the input reads as it did. -/
def worksFloorsUptoRow : OpenClaim := { program := "ytijehnelcbdlgaagreat", sum := "3368a562d2f740913bd9c2ca7b182705544d472d12f6df4f31aba4d32868e8b5", func := "underpin/underpinlaw08.WorksFloors", spec := "worksFloors", unfollowed := true, recurses := true, plainKeys := false, apart := false, narrowed := true }
def WorksFloorsUptoSaid : Prop := worksFloorsUptoRow.holds Tryz.pinned (OpenSpec.upto worksFloorsSpec)

/-- 'underpinlaw08.WorksFails', WHERE WHAT IT READS IS OF BULK AT MOST 1048576: true; the input reads as it did. -/
def worksFailsUptoRow : OpenClaim := { program := "ytijehnelcbdlgaagreat", sum := "3368a562d2f740913bd9c2ca7b182705544d472d12f6df4f31aba4d32868e8b5", func := "underpin/underpinlaw08.WorksFails", spec := "worksFails", unfollowed := true, recurses := true, plainKeys := false, apart := false, narrowed := true }
def WorksFailsUptoSaid : Prop := worksFailsUptoRow.holds Tryz.pinned (OpenSpec.upto worksFailsSpec)

/-- 'underpinlaw08.WorksGoes', WHERE WHAT IT READS IS OF BULK AT MOST 1048576: true; the input reads as it did. -/
def worksGoesUptoRow : OpenClaim := { program := "ytijehnelcbdlgaagreat", sum := "3368a562d2f740913bd9c2ca7b182705544d472d12f6df4f31aba4d32868e8b5", func := "underpin/underpinlaw08.WorksGoes", spec := "worksGoes", unfollowed := true, recurses := true, plainKeys := false, apart := false, narrowed := true }
def WorksGoesUptoSaid : Prop := worksGoesUptoRow.holds Tryz.pinned (OpenSpec.upto worksGoesSpec)

end Rows
end Go.Proofs.YtijehnelcbdlgaaGreat
