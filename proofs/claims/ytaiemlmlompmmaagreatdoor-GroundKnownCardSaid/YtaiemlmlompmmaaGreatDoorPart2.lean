/-
  PROVED HERE, by the kernel's run: what the remembered call e115_16169 comes to. No condition.
-/
import Derived.Test.YtaiemlmlompmmaaGreatDoorVals
import Derived.Test.YtaiemlmlompmmaaGreatDoorEnts
namespace Go.Proofs.YtaiemlmlompmmaaGreatDoor
open Ab Ab.Fa
set_option maxRecDepth 100000 in
theorem p_e115_16169 : partOK env [] 60 1000000 e115_16169 = true := by kernel_rfl
end Go.Proofs.YtaiemlmlompmmaaGreatDoor
