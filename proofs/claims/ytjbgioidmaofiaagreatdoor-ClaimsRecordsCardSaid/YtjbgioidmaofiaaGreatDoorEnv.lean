import Derived.Test.YtjbgioidmaofiaaGreatDoorProg
import Derived.ProofKit
import Derived.Test.YtjbgioidmaofiaaGreatDoorA8
import Derived.Test.YtjbgioidmaofiaaGreatDoorA7
namespace Go.Proofs.aA
open Go.Proofs Ab
noncomputable def Ta (f:FuncId):Option (List AV→Option AV):=
 bif Nat.beq f 186 then some vQ else bif Nat.beq f 169 then some vR else none
noncomputable def env:Env:={P:=Tryz.prog,G:=8,jg:=Ta,ff:=fun _=>none,Yc:=some 60}
def fL:List Nat:=[1,10,100,1000,10000,100000,1000000,10000000,100000000,1000000000,10000000000,100000000000,1000000000000,10000000000000,100000000000000,1000000000000000,10000000000000000,100000000000000000,1000000000000000000,10000000000000000000]
noncomputable def LB (a:List AV) (h:ag):Option (AV×ag):=match a with | []=>(match zt 0 230 fL h with | true=>some (.bool true,h) | false=>none) | _=>none
noncomputable def M0:Fa.Dk:=fun f a h=>bif Nat.beq f 5 then LB a h else bif Nat.beq f 50 then Dw a h else bif Nat.beq f 47 then qK 60 a h else bif Nat.beq f 26 then m6 60 5 a h else none
noncomputable abbrev cC (d:Nat):aB:=dg env M0 d
theorem ah {α : Type _} (a b : α) : cond true a b = a := rfl
theorem ae {α : Type _} (a b : α) : cond false a b = b := rfl
end Go.Proofs.aA
namespace Go.Proofs.aA
open Go.Proofs Ab
set_option maxRecDepth 100000
section
open Go.Shelf Go.RowKit
def ui:Go.Shelf.Ren:=⟨fun | 156=>50 | 165=>85 | 166=>23 | 169=>26 | 240=>47 | 241=>110 | 276=>82 | 277=>162 | n=>n,fun | 31=>93 | 9=>9 | 3=>3 | 4=>4 | 0=>0 | 20=>20 | 72=>60 | 76=>63 | 70=>57 | 37=>58 | 75=>62 | 127=>106 | 164=>151 | 5=>5 | 80=>67 | n=>n,fun | n=>n⟩
theorem rQ:Go.Proofs.Lays.n156 Tryz.prog ui:={
 mixed:=by kernel_rfl
 f156:=Tryz.func50.trans (congrArg some (by kernel_rfl))
 f165:=Tryz.func85.trans (congrArg some (by kernel_rfl))
 f166:=Tryz.func23.trans (congrArg some (by kernel_rfl))
 f169:=Tryz.func26.trans (congrArg some (by kernel_rfl))
 f240:=Tryz.func47.trans (congrArg some (by kernel_rfl))
 f241:=Tryz.func110.trans (congrArg some (by kernel_rfl))
 f276:=Tryz.func82.trans (congrArg some (by kernel_rfl))
 f277:=Tryz.func162.trans (congrArg some (by kernel_rfl))
 t0:=Tryz.underlying0
 a0:=Tryz.isAgg0
 z0:=Tryz.sizeOf0
 v0:=Tryz.zeroValue0
 t3:=Tryz.underlying3
 a3:=Tryz.isAgg3
 z3:=Tryz.sizeOf3
 v3:=Tryz.zeroValue3
 t4:=Tryz.underlying4
 a4:=Tryz.isAgg4
 z4:=Tryz.sizeOf4
 v4:=Tryz.zeroValue4
 t9:=Tryz.underlying9
 a9:=Tryz.isAgg9
 z9:=Tryz.sizeOf9
 v9:=Tryz.zeroValue9
 t20:=Tryz.underlying20
 a20:=Tryz.isAgg20
 z20:=Tryz.sizeOf20
 v20:=Tryz.zeroValue20
 t31:=Tryz.underlying93
 a31:=Tryz.isAgg93
 z31:=Tryz.sizeOf93
 v31:=Tryz.zeroValue93
 t37:=Tryz.underlying58
 a37:=Tryz.isAgg58
 z37:=Tryz.sizeOf58
 v37:=Tryz.zeroValue58
 t70:=Tryz.underlying57
 a70:=Tryz.isAgg57
 z70:=Tryz.sizeOf57
 v70:=Tryz.zeroValue57
 t72:=Tryz.underlying60
 a72:=Tryz.isAgg60
 z72:=Tryz.sizeOf60
 v72:=Tryz.zeroValue60
 t75:=Tryz.underlying62
 a75:=Tryz.isAgg62
 z75:=Tryz.sizeOf62
 v75:=Tryz.zeroValue62
 t76:=Tryz.underlying63
 a76:=Tryz.isAgg63
 z76:=Tryz.sizeOf63
 v76:=Tryz.zeroValue63
 t127:=Tryz.underlying106
 a127:=Tryz.isAgg106
 z127:=Tryz.sizeOf106
 v127:=Tryz.zeroValue106
 t164:=Tryz.underlying151
 a164:=Tryz.isAgg151
 z164:=Tryz.sizeOf151
 v164:=Tryz.zeroValue151}
theorem wu:Builder.Extra Tryz.prog ui:={
 sizeBuilder:=by kernel_rfl
 liesBuilder:=by kernel_rfl
 t5:=Tryz.underlying5
 a5:=Tryz.isAgg5
 z5:=Tryz.sizeOf5
 v5:=Tryz.zeroValue5
 infoByte:=by kernel_rfl
 cellsByte:=by kernel_rfl
 sizeByte:=by kernel_rfl
 neB5:=by decide}
theorem LC:∀args w,(callFunc 50 args).run Tryz.prog w= .ok (.enter 50 args) w:=enters_of Tryz.func50 (by kernel_rfl) rfl
theorem LD:∀args w,(callFunc 47 args).run Tryz.prog w= .ok (.enter 47 args) w:=enters_of Tryz.func47 (by kernel_rfl) rfl
theorem LF:∀args w,(callFunc 26 args).run Tryz.prog w= .ok (.enter 26 args) w:=enters_of Tryz.func26 (by kernel_rfl) rfl
theorem P0:HA Tryz.prog 50:=fun bk o c xs sep w h1 h2 h3 h4 h5=>Any.strings_Join rQ wu bk o c xs sep w h1 h2 h3 h4 h5
theorem LG:Dx Tryz.prog 47 60:=⟨fun b w h1 h2 h3=>Any.Builder_copyCheck_fresh {rQ with} wu.toX72 b w h1 h2 h3,fun b w h1=>Any.Builder_copyCheck_used {rQ with} wu.toX72 b w h1⟩
theorem IV:zw Tryz.prog 26 5:=⟨fun b w h=>Any.m5 {rQ with} wu b w h,fun b g cap cells l w h1 h2 h3 h4 h5 h6 h7=>Any.qJ {rQ with} wu b g cap cells l w h1 h2 h3 h4 h5 h6 h7⟩
end
end Go.Proofs.aA
