import Derived.Test.YtijehnelcbdlgaaGreatLived
namespace Go.Proofs.aM
open Go.Proofs Ab Fa
set_option maxRecDepth 100000 in
theorem af5:xj env [] 60 1000 aim=true:=by kernel_rfl
set_option maxRecDepth 100000 in
theorem YB:xj env [] 60 1000 Wt=true:=by kernel_rfl
end Go.Proofs.aM
