import Derived.Test.YtobmbjlcklkpoaaProg
import Derived.ProofKit
import Derived.Shelf.SlicesG.Cmp
import Derived.Test.YtobmbjlcklkpoaaA7
namespace Go.Proofs.aJ
open Go.Proofs Ab
noncomputable def Y_ (_:FuncId):Option (List AV→Option AV):=none
noncomputable def env:Env:={P:=Try.prog,G:=0,mO:=Y_,iW:=fun _=>none}
noncomputable def Y' (a:List AV) (h:aw):Option (AV×aw):=match a with | []=>some (.bool true,h) | _=>none
noncomputable def M0:Fa.FR:=fun f a h=>bif Nat.beq f 5 then Y' a h else bif Nat.beq f 63 then BI 64 a h else none
noncomputable abbrev cJ (d:Nat):bj:=e_ env M0 d
theorem aj {α : Type _} (a b : α) : cond true a b = a := rfl
theorem ai {α : Type _} (a b : α) : cond false a b = b := rfl
end Go.Proofs.aJ
namespace Go.Proofs.aJ
open Go.Proofs Ab
set_option maxRecDepth 100000
set_option maxHeartbeats 2000000
section
open Go.Shelf Go.RowKit Go.Sort
def BK:Go.Shelf.Ren:=⟨fun | 6=>63 | 15=>77 | 14=>76 | 28=>91 | 29=>92 | 20=>83 | 21=>84 | 22=>85 | 23=>86 | 24=>87 | 25=>88 | 26=>89 | 27=>90 | 46=>95 | 47=>96 | 48=>97 | 49=>98 | 50=>99 | 57=>101 | n=>n,fun | 22=>30 | 24=>23 | 25=>101 | 3=>3 | 39=>50 | 0=>0 | 53=>111 | 55=>113 | 4=>4 | 46=>118 | 45=>117 | 50=>122 | 5=>5 | 9=>9 | 66=>126 | 70=>130 | 76=>132 | 77=>133 | n=>n,fun | n=>n⟩
theorem Rz:Go.Proofs.SlLaysF0.n6 Try.prog BK:={
 mixed:=by kernel_rfl
 f6:=⟨Try.f63.name,by decide,Try.func63.trans (congrArg some (by kernel_rfl))⟩
 f14:=⟨Try.f76.name,by decide,Try.func76.trans (congrArg some (by kernel_rfl))⟩
 f15:=Try.func77.trans (congrArg some (by kernel_rfl))
 f20:=⟨Try.f83.name,by decide,Try.func83.trans (congrArg some (by kernel_rfl))⟩
 f21:=⟨Try.f84.name,by decide,Try.func84.trans (congrArg some (by kernel_rfl))⟩
 f22:=⟨Try.f85.name,by decide,Try.func85.trans (congrArg some (by kernel_rfl))⟩
 f23:=⟨Try.f86.name,by decide,Try.func86.trans (congrArg some (by kernel_rfl))⟩
 f24:=⟨Try.f87.name,by decide,Try.func87.trans (congrArg some (by kernel_rfl))⟩
 f25:=⟨Try.f88.name,by decide,Try.func88.trans (congrArg some (by kernel_rfl))⟩
 f26:=⟨Try.f89.name,by decide,Try.func89.trans (congrArg some (by kernel_rfl))⟩
 f27:=⟨Try.f90.name,by decide,Try.func90.trans (congrArg some (by kernel_rfl))⟩
 f28:=Try.func91.trans (congrArg some (by kernel_rfl))
 f29:=Try.func92.trans (congrArg some (by kernel_rfl))
 f46:=⟨Try.f95.name,by decide,Try.func95.trans (congrArg some (by kernel_rfl))⟩
 f47:=Try.func96.trans (congrArg some (by kernel_rfl))
 f48:=Try.func97.trans (congrArg some (by kernel_rfl))
 f49:=⟨Try.f98.name,by decide,Try.func98.trans (congrArg some (by kernel_rfl))⟩
 f50:=⟨Try.f99.name,by decide,Try.func99.trans (congrArg some (by kernel_rfl))⟩
 f57:=⟨Try.f101.name,by decide,Try.func101.trans (congrArg some (by kernel_rfl))⟩
 t0:=Try.underlying0
 a0:=Try.isAgg0
 z0:=Try.sizeOf0
 v0:=Try.zeroValue0
 t3:=Try.underlying3
 a3:=Try.isAgg3
 z3:=Try.sizeOf3
 v3:=Try.zeroValue3
 t4:=Try.underlying4
 a4:=Try.isAgg4
 z4:=Try.sizeOf4
 v4:=Try.zeroValue4
 t5:=Try.underlying5
 a5:=Try.isAgg5
 z5:=Try.sizeOf5
 v5:=Try.zeroValue5
 t9:=Try.underlying9
 a9:=Try.isAgg9
 z9:=Try.sizeOf9
 v9:=Try.zeroValue9
 t22:=Try.underlying30
 a22:=Try.isAgg30
 z22:=Try.sizeOf30
 v22:=Try.zeroValue30
 t25:=Try.underlying101
 a25:=Try.isAgg101
 z25:=Try.sizeOf101
 v25:=Try.zeroValue101
 t39:=Try.underlying50
 a39:=Try.isAgg50
 z39:=Try.sizeOf50
 v39:=Try.zeroValue50
 t45:=Try.underlying117
 a45:=Try.isAgg117
 z45:=Try.sizeOf117
 v45:=Try.zeroValue117
 t46:=Try.underlying118
 a46:=Try.isAgg118
 z46:=Try.sizeOf118
 v46:=Try.zeroValue118
 t50:=Try.underlying122
 a50:=Try.isAgg122
 z50:=Try.sizeOf122
 v50:=Try.zeroValue122
 t53:=Try.underlying111
 a53:=Try.isAgg111
 z53:=Try.sizeOf111
 v53:=Try.zeroValue111
 t55:=Try.underlying113
 a55:=Try.isAgg113
 z55:=Try.sizeOf113
 v55:=Try.zeroValue113
 t66:=Try.underlying126
 a66:=Try.isAgg126
 z66:=Try.sizeOf126
 v66:=Try.zeroValue126
 t70:=Try.underlying130
 a70:=Try.isAgg130
 z70:=Try.sizeOf130
 v70:=Try.zeroValue130
 t76:=Try.underlying132
 a76:=Try.isAgg132
 z76:=Try.sizeOf132
 v76:=Try.zeroValue132
 t77:=Try.underlying133
 a77:=Try.isAgg133
 z77:=Try.sizeOf133
 v77:=Try.zeroValue133}
def Ov:Go.Shelf.Ren:=⟨fun | 5=>65 | 7=>78 | n=>n,fun | 22=>3 | 3=>3 | 4=>4 | n=>n,fun | n=>n⟩
theorem abM:Go.Proofs.SlLaysC2.n5 Try.prog Ov:={
 mixed:=by kernel_rfl
 f5:=⟨Try.f65.name,by decide,Try.func65.trans (congrArg some (by kernel_rfl))⟩
 f7:=⟨Try.f78.name,by decide,Try.func78.trans (congrArg some (by kernel_rfl))⟩
 t3:=Try.underlying3
 a3:=Try.isAgg3
 z3:=Try.sizeOf3
 v3:=Try.zeroValue3
 t4:=Try.underlying4
 a4:=Try.isAgg4
 z4:=Try.sizeOf4
 v4:=Try.zeroValue4
 t22:=Try.underlying3
 a22:=Try.isAgg3
 z22:=Try.sizeOf3
 v22:=Try.zeroValue3}
theorem RA (x y:Int×Int) (W:World):Calls Try.prog 64 #[.agg #[.int .i64 x.1,.int .i64 x.2],.agg #[.int .i64 y.1,.int .i64 y.2]] W fun e w'=>e= .returned (.int .i64 (Lib.compareInt x.1 y.1))∧∃q os',w'=grow (W.drewN q) os':=by
 have Qm:=fun W'=>AnyG.cmp_Compare_int abM x.1 y.1 W'
 change ∀W',Calls Try.prog 65 _ _ _ at Qm
 generalize Lib.compareInt x.1 y.1=r at Qm ⊢
 go_enter Try.func64,Try.ntmps64
 go_wp2_with (go_at_call 65;refine (Qm _).mono ?_;rintro e w' ⟨rfl,rfl⟩)
 go_ret
 exact ⟨rfl,0,_,by rw[alloc_eq_grow,alloc_eq_grow,grow_grow];rfl⟩
theorem RB:∀args w,(callFunc 63 args).run Try.prog w= .ok (.enter 63 args) w:=enters_of Try.func63 (by kernel_rfl) rfl
theorem RD:∀args w,(callFunc 64 args).run Try.prog w= .ok (.enter 64 args) w:=enters_of Try.func64 (by kernel_rfl) rfl
theorem VU:MS Try.prog 63 64 where
 nothing p cap fv w:=AnyF.slices_SortFunc_none (P:=Try.prog) (ρ:=BK) {Rz with} p cap fv w
 row eg off cap d w hH hblk NS:=AnyQ.slices_SortFunc_eq Rz 2 Try.isAgg23 Try.sizeOf23 vB (fun _=>rfl) (fun x v hv=>by simp [vB] at hv;rcases hv with rfl | rfl<;>rfl) uv aeE 64 #[] eg off cap d w RD (fun _ _ _ _ x y=>RA x y _) hH hblk (by omega)
end
end Go.Proofs.aJ
