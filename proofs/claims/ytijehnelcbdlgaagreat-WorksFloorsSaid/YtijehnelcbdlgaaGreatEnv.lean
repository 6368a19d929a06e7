import Derived.Test.YtijehnelcbdlgaaGreatProg
import Derived.ProofKit
import Derived.Test.YtijehnelcbdlgaaGreatA7
import Derived.Test.YtijehnelcbdlgaaGreatA6
namespace Go.Proofs.aE
open Go.Proofs Ab
noncomputable def env:Env:={P:=Tryz.prog,G:=0,mO:=fun _=>none,iN:=fun _=>none}
def Y7 (a:List AV) (h:ak):Option (AV×ak):=match a with | []=>some (.bool true,h) | _=>none
noncomputable def M0:Fa.Im:=fun f a h=>bif Nat.beq f 7 then Y7 a h else none
noncomputable abbrev cA (d:Nat):a_:=je env M0 d
theorem aj {α : Type _} (a b : α) : cond true a b = a := rfl
theorem af {α : Type _} (a b : α) : cond false a b = b := rfl
end Go.Proofs.aE
