/-
  DEFINED HERE: what the evaluator takes for known of this program: four functions without a text, maps.Keys and slices.Sorted.
-/
import Derived.Test.YtaiemlmlompmmaaGreatDoorAbMemo
import Derived.Test.YtaiemlmlompmmaaGreatDoorAbSorted
import Derived.Test.YtaiemlmlompmmaaGreatDoorAbExt
import Derived.ProofKit
import Derived.Test.YtaiemlmlompmmaaGreatDoorProg
namespace Go.Proofs.YtaiemlmlompmmaaGreatDoor
open Go.Proofs Ab
noncomputable def pureOf (f : FuncId) : Option (List AV → Option AV) :=
  bif Nat.beq f 262 then some add64A else bif Nat.beq f 263 then some sub64A else bif Nat.beq f 241 then some indexByteA else bif Nat.beq f 203 then some countByteA else none
noncomputable def specialsOf (f : FuncId) : Option (List AV → Heap → Option (AV × Heap)) :=
  bif Nat.beq f 17 then some (sortedA 53 9) else bif Nat.beq f 18 then some (keysA 53 74) else none
noncomputable def env : Env := { P := Tryz.prog, G := 10, pureExt := pureOf, special := specialsOf }
end Go.Proofs.YtaiemlmlompmmaaGreatDoor
