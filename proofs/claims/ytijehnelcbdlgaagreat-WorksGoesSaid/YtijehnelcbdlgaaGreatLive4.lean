import Derived.Test.YtijehnelcbdlgaaGreatLived
namespace Go.Proofs.aM
open Go.Proofs Ab Fa
set_option maxRecDepth 100000 in
theorem abu:xj env [] 60 1000 abt=true:=by kernel_rfl
set_option maxRecDepth 100000 in
theorem YG:xj env [] 60 1000 Wy=true:=by kernel_rfl
end Go.Proofs.aM
