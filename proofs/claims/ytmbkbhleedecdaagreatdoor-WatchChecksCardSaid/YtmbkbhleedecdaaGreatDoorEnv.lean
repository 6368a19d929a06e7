import Derived.Test.YtmbkbhleedecdaaGreatDoorProg
import Derived.ProofKit
import Derived.Test.YtmbkbhleedecdaaGreatDoorA8
import Derived.Test.YtmbkbhleedecdaaGreatDoorA7
namespace Go.Proofs.aM
open Go.Proofs Ab
noncomputable def Xl (_:FuncId):Option (List AV→Option AV):=none
noncomputable def env:Env:={P:=Tryz.prog,G:=4,mi:=Xl,ir:=fun _=>none,bld:=some 61}
def n6:List Nat:=[1,10,100,1000,10000,100000,1000000,10000000,100000000,1000000000,10000000000,100000000000,1000000000000,10000000000000,100000000000000,1000000000000000,10000000000000000,100000000000000000,1000000000000000000,10000000000000000000]
noncomputable def Xm (a:List AV) (h:ax):Option (AV×ax):=match a with | []=>some (.bool true,h) | _=>none
noncomputable def M0:Fa.HV:=fun f a h=>bif Nat.beq f 5 then Xm a h else bif Nat.beq f 21 then H8 a h else bif Nat.beq f 53 then vD 61 a h else bif Nat.beq f 24 then rk 61 5 a h else none
noncomputable abbrev cT (d:Nat):a_:=fB env M0 d
theorem ak {α : Type _} (a b : α) : cond true a b = a := rfl
theorem ah {α : Type _} (a b : α) : cond false a b = b := rfl
end Go.Proofs.aM
namespace Go.Proofs.aM
open Go.Proofs Ab
set_option maxRecDepth 100000
section
open Go.Shelf Go.RowKit
def zF:Go.Shelf.Ren:=⟨fun | 156=>21 | 165=>54 | 166=>20 | 169=>24 | 240=>53 | 241=>84 | 276=>83 | 277=>101 | n=>n,fun | 31=>62 | 9=>9 | 3=>3 | 4=>4 | 0=>0 | 20=>20 | 72=>61 | 76=>65 | 70=>58 | 37=>59 | 75=>64 | 127=>104 | 164=>131 | 5=>5 | 80=>73 | n=>n,fun | n=>n⟩
theorem xa:Go.Proofs.Lays.n156 Tryz.prog zF:={
 mixed:=by kernel_rfl
 f156:=Tryz.func21.trans (congrArg some (by kernel_rfl))
 f165:=Tryz.func54.trans (congrArg some (by kernel_rfl))
 f166:=Tryz.func20.trans (congrArg some (by kernel_rfl))
 f169:=Tryz.func24.trans (congrArg some (by kernel_rfl))
 f240:=Tryz.func53.trans (congrArg some (by kernel_rfl))
 f241:=Tryz.func84.trans (congrArg some (by kernel_rfl))
 f276:=Tryz.func83.trans (congrArg some (by kernel_rfl))
 f277:=Tryz.func101.trans (congrArg some (by kernel_rfl))
 t0:=Tryz.underlying0
 a0:=Tryz.isAgg0
 z0:=Tryz.sizeOf0
 v0:=Tryz.zeroValue0
 t3:=Tryz.underlying3
 a3:=Tryz.isAgg3
 z3:=Tryz.sizeOf3
 v3:=Tryz.zeroValue3
 t4:=Tryz.underlying4
 a4:=Tryz.isAgg4
 z4:=Tryz.sizeOf4
 v4:=Tryz.zeroValue4
 t9:=Tryz.underlying9
 a9:=Tryz.isAgg9
 z9:=Tryz.sizeOf9
 v9:=Tryz.zeroValue9
 t20:=Tryz.underlying20
 a20:=Tryz.isAgg20
 z20:=Tryz.sizeOf20
 v20:=Tryz.zeroValue20
 t31:=Tryz.underlying62
 a31:=Tryz.isAgg62
 z31:=Tryz.sizeOf62
 v31:=Tryz.zeroValue62
 t37:=Tryz.underlying59
 a37:=Tryz.isAgg59
 z37:=Tryz.sizeOf59
 v37:=Tryz.zeroValue59
 t70:=Tryz.underlying58
 a70:=Tryz.isAgg58
 z70:=Tryz.sizeOf58
 v70:=Tryz.zeroValue58
 t72:=Tryz.underlying61
 a72:=Tryz.isAgg61
 z72:=Tryz.sizeOf61
 v72:=Tryz.zeroValue61
 t75:=Tryz.underlying64
 a75:=Tryz.isAgg64
 z75:=Tryz.sizeOf64
 v75:=Tryz.zeroValue64
 t76:=Tryz.underlying65
 a76:=Tryz.isAgg65
 z76:=Tryz.sizeOf65
 v76:=Tryz.zeroValue65
 t127:=Tryz.underlying104
 a127:=Tryz.isAgg104
 z127:=Tryz.sizeOf104
 v127:=Tryz.zeroValue104
 t164:=Tryz.underlying131
 a164:=Tryz.isAgg131
 z164:=Tryz.sizeOf131
 v164:=Tryz.zeroValue131}
theorem BE:Builder.Extra Tryz.prog zF:={
 sizeBuilder:=by kernel_rfl
 liesBuilder:=by kernel_rfl
 t5:=Tryz.underlying5
 a5:=Tryz.isAgg5
 z5:=Tryz.sizeOf5
 v5:=Tryz.zeroValue5
 infoByte:=by kernel_rfl
 cellsByte:=by kernel_rfl
 sizeByte:=by kernel_rfl
 neB5:=by decide}
theorem Qd:∀args w,(callFunc 21 args).run Tryz.prog w= .ok (.enter 21 args) w:=enters_of Tryz.func21 (by kernel_rfl) rfl
theorem Qe:∀args w,(callFunc 53 args).run Tryz.prog w= .ok (.enter 53 args) w:=enters_of Tryz.func53 (by kernel_rfl) rfl
theorem Qf:∀args w,(callFunc 24 args).run Tryz.prog w= .ok (.enter 24 args) w:=enters_of Tryz.func24 (by kernel_rfl) rfl
theorem Uj:LZ Tryz.prog 21:=fun bk o c xs sep w h1 h2 h3 h4 h5=>Any.strings_Join xa BE bk o c xs sep w h1 h2 h3 h4 h5
theorem Qg:H9 Tryz.prog 53 61:=⟨fun b w h1 h2 h3=>Any.Builder_copyCheck_fresh {xa with} BE.toX72 b w h1 h2 h3,fun b w h1=>Any.Builder_copyCheck_used {xa with} BE.toX72 b w h1⟩
theorem Nl:D4 Tryz.prog 24 5:=⟨fun b w h=>Any.rj {xa with} BE b w h,fun b g cap cells l w h1 h2 h3 h4 h5 h6 h7=>Any.vC {xa with} BE b g cap cells l w h1 h2 h3 h4 h5 h6 h7⟩
end
end Go.Proofs.aM
