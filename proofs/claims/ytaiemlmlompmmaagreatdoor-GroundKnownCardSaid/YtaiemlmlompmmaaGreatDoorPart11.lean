/-
  PROVED HERE, by the kernel's run: the whole call, over the calls that are remembered, ends in true. No condition.
-/
import Derived.Test.YtaiemlmlompmmaaGreatDoorVals
import Derived.Test.YtaiemlmlompmmaaGreatDoorEnts
namespace Go.Proofs.YtaiemlmlompmmaaGreatDoor
open Ab Ab.Fa
set_option maxRecDepth 100000 in
theorem runs : endsTrue (callM env (memoL [e9_2343, e9_12180, e11_24524, e13_49716]) 60 1000000 (.fn 3) [] (heapOf 10 [])) = true := by kernel_rfl
end Go.Proofs.YtaiemlmlompmmaaGreatDoor
