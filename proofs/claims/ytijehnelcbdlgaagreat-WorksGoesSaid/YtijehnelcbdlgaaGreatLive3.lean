import Derived.Test.YtijehnelcbdlgaaGreatLived
namespace Go.Proofs.aM
open Go.Proofs Ab Fa
set_option maxRecDepth 100000 in
theorem YE:xj env [] 60 1000 Ww=true:=by kernel_rfl
set_option maxRecDepth 100000 in
theorem YF:xj env [Ww] 60 1000 Wx=true:=by kernel_rfl
end Go.Proofs.aM
