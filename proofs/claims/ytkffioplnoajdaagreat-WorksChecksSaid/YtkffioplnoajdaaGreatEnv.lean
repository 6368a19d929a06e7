import Derived.Test.YtkffioplnoajdaaGreatProg
import Derived.ProofKit
import Derived.Test.YtkffioplnoajdaaGreatA7
import Derived.Test.YtkffioplnoajdaaGreatA6
namespace Go.Proofs.aP
open Go.Proofs Ab
noncomputable def env:Env:={P:=Tryz.prog,G:=0,nN:=fun _=>none,jm:=fun _=>none}
def abF (a:List AV) (h:au):Option (AV×au):=match a with | []=>some (.bool true,h) | _=>none
noncomputable def M0:Fa.KO:=fun f a h=>bif Nat.beq f 5 then abF a h else none
noncomputable abbrev cR (d:Nat):bq:=kX env M0 d
end Go.Proofs.aP
