import Derived.Test.YtemlmndojncekaaGreatProg
import Derived.ProofKit
import Derived.Test.YtemlmndojncekaaGreatA7
import Derived.Test.YtemlmndojncekaaGreatA6
namespace Go.Proofs.aQ
open Go.Proofs Ab
noncomputable def env:Env:={P:=Tryz.prog,G:=0,oF:=fun _=>none,j5:=fun _=>none}
def age (a:List AV) (h:aC):Option (AV×aC):=match a with | []=>some (.bool true,h) | _=>none
noncomputable def M0:Fa.N6:=fun f a h=>bif Nat.beq f 5 then age a h else none
noncomputable abbrev cN (d:Nat):bu:=lQ env M0 d
theorem aj {α : Type _} (a b : α) : cond true a b = a := rfl
theorem ai {α : Type _} (a b : α) : cond false a b = b := rfl
end Go.Proofs.aQ
