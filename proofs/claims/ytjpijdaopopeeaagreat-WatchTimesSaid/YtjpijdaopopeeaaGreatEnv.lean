import Derived.Test.YtjpijdaopopeeaaGreatProg
import Derived.ProofKit
import Derived.Test.YtjpijdaopopeeaaGreatA7
import Derived.Test.YtjpijdaopopeeaaGreatA6
namespace Go.Proofs.Bench
open Go.Proofs Ab
noncomputable def env:Env:={P:=Tryz.prog,G:=0,pureExt:=fun _=>none,special:=fun _=>none}
def livesM (a:List AV) (h:Heap):Option (AV×Heap):=match a with | []=>some (.bool true,h) | _=>none
noncomputable def M0:Fa.Memo:=fun f a h=>bif Nat.beq f 5 then livesM a h else none
noncomputable abbrev cal (d:Nat):CallF:=callP env M0 d
end Go.Proofs.Bench
