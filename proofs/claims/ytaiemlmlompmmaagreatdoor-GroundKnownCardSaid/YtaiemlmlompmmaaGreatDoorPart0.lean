/-
  PROVED HERE, by the kernel's run: what the remembered call e9_2343 comes to. No condition.
-/
import Derived.Test.YtaiemlmlompmmaaGreatDoorVals
import Derived.Test.YtaiemlmlompmmaaGreatDoorEnts
namespace Go.Proofs.YtaiemlmlompmmaaGreatDoor
open Ab Ab.Fa
set_option maxRecDepth 100000 in
theorem p_e9_2343 : partOK env [e27_3468] 60 1000000 e9_2343 = true := by kernel_rfl
set_option maxRecDepth 100000 in
theorem p_e13_49716 : partOK env [e27_51658] 60 1000000 e13_49716 = true := by kernel_rfl
set_option maxRecDepth 100000 in
theorem p_e9_12180 : partOK env [e27_13774] 60 1000000 e9_12180 = true := by kernel_rfl
end Go.Proofs.YtaiemlmlompmmaaGreatDoor
