import Derived.Test.YthapgpflpcffnaaGreatDoorProg
import Derived.ProofKit
import Derived.Test.YthapgpflpcffnaaGreatDoorA7
namespace Go.Proofs.aP
open Go.Proofs Ab
noncomputable def Od (f:FuncId):Option (List AV→Option AV):=
 bif Nat.beq f 166 then some tf else bif Nat.beq f 144 then some tg else none
noncomputable def env:Env:={P:=Tryz.prog,G:=8,gN:=Od,dM:=fun _=>none}
def eF:List Nat:=[1,10,100,1000,10000,100000,1000000,10000000,100000000,1000000000,10000000000,100000000000,1000000000000,10000000000000,100000000000000,1000000000000000,10000000000000000,100000000000000000,1000000000000000000,10000000000000000000]
noncomputable def HZ (a:List AV) (h:ah):Option (AV×ah):=match a with | []=>(match wc 1 236 eF h with | true=>some (.bool true,h) | false=>none) | _=>none
noncomputable def M0:Fa.Ap:=fun f a h=>bif Nat.beq f 5 then HZ a h else bif Nat.beq f 60 then Az a h else none
noncomputable abbrev dJ (d:Nat):aI:=dK env M0 d
theorem ar {α : Type _} (a b : α) : cond true a b = a := rfl
theorem ao {α : Type _} (a b : α) : cond false a b = b := rfl
end Go.Proofs.aP
