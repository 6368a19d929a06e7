import Derived.Test.YtijehnelcbdlgaaGreatLived
namespace Go.Proofs.aM
open Go.Proofs Ab Fa
set_option maxRecDepth 100000 in
theorem YC:xj env [] 60 1000 Wu=true:=by kernel_rfl
set_option maxRecDepth 100000 in
theorem YD:xj env [Wu] 60 1000 Wv=true:=by kernel_rfl
end Go.Proofs.aM
