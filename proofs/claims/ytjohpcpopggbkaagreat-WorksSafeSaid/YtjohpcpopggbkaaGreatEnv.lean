import Derived.Test.YtjohpcpopggbkaaGreatProg
import Derived.ProofKit
import Derived.Test.YtjohpcpopggbkaaGreatA7
import Derived.Test.YtjohpcpopggbkaaGreatA6
namespace Go.Proofs.aW
open Go.Proofs Ab
noncomputable def env:Env:={P:=Tryz.prog,G:=0,km:=fun _=>none,gu:=fun _=>none}
def O4 (a:List AV) (h:aq):Option (AV×aq):=match a with | []=>some (.bool true,h) | _=>none
noncomputable def M0:Fa.BM:=fun f a h=>bif Nat.beq f 5 then O4 a h else none
noncomputable abbrev dH (d:Nat):aY:=jf env M0 d
end Go.Proofs.aW
