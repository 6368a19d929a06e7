/-
  PROVED HERE, by the kernel's run: what the remembered call e27_13774 comes to. No condition.
-/
import Derived.Test.YtaiemlmlompmmaaGreatDoorVals
import Derived.Test.YtaiemlmlompmmaaGreatDoorEnts
namespace Go.Proofs.YtaiemlmlompmmaaGreatDoor
open Ab Ab.Fa
set_option maxRecDepth 100000 in
theorem p_e27_13774 : partOK env [e115_16169] 60 1000000 e27_13774 = true := by kernel_rfl
end Go.Proofs.YtaiemlmlompmmaaGreatDoor
