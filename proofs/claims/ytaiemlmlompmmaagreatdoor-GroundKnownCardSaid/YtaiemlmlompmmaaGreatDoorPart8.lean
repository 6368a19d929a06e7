/-
  PROVED HERE, by the kernel's run: what the remembered call e11_24524 comes to. No condition.
-/
import Derived.Test.YtaiemlmlompmmaaGreatDoorVals
import Derived.Test.YtaiemlmlompmmaaGreatDoorEnts
namespace Go.Proofs.YtaiemlmlompmmaaGreatDoor
open Ab Ab.Fa
set_option maxRecDepth 100000 in
theorem p_e11_24524 : partOK env [e27_25830, e27_34046, e27_41654] 60 1000000 e11_24524 = true := by kernel_rfl
end Go.Proofs.YtaiemlmlompmmaaGreatDoor
