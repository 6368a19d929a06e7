import Derived.Test.YtaglmdbkfcpbbaaGreatProg
import Derived.ProofKit
import Derived.Test.YtaglmdbkfcpbbaaGreatA7
import Derived.Test.YtaglmdbkfcpbbaaGreatA6
namespace Go.Proofs.bt
open Go.Proofs Ab
noncomputable def env:Env:={P:=Tryz.prog,G:=0,lJ:=fun _=>none,im:=fun _=>none}
def P_ (a:List AV) (h:ar):Option (AV×ar):=match a with | []=>some (.bool true,h) | _=>none
noncomputable def M0:Fa.Dk:=fun f a h=>bif Nat.beq f 5 then P_ a h else none
noncomputable abbrev eD (d:Nat):bx:=ks env M0 d
end Go.Proofs.bt
