import Derived.Test.YtogcojohajankaaGreatProg
import Derived.ProofKit
import Derived.Test.YtogcojohajankaaGreatA7
import Derived.Test.YtogcojohajankaaGreatA6
namespace Go.Proofs.aJ
open Go.Proofs Ab
noncomputable def env:Env:={P:=Tryz.prog,G:=0,n9:=fun _=>none,jS:=fun _=>none}
def aev (a:List AV) (h:aw):Option (AV×aw):=match a with | []=>some (.bool true,h) | _=>none
noncomputable def M0:Fa.Nd:=fun f a h=>bif Nat.beq f 5 then aev a h else none
noncomputable abbrev cU (d:Nat):bm:=lK env M0 d
end Go.Proofs.aJ
