import Derived.Test.YtfllahfbmaafcaaProg
import Derived.ProofKit
import Derived.Shelf.SlicesG.Cmp
import Derived.Test.YtfllahfbmaafcaaA7
namespace Go.Proofs.aG
open Go.Proofs Ab
noncomputable def ZT (_:FuncId):Option (List AV→Option AV):=none
noncomputable def env:Env:={P:=Try.prog,G:=0,mT:=ZT,jd:=fun _=>none}
noncomputable def ZU (a:List AV) (h:aA):Option (AV×aA):=match a with | []=>some (.bool true,h) | _=>none
noncomputable def M0:Fa.GD:=fun f a h=>bif Nat.beq f 8 then ZU a h else bif Nat.beq f 78 then Sk 79 a h else none
noncomputable abbrev cz (d:Nat):bh:=fF env M0 d
theorem ak {α : Type _} (a b : α) : cond true a b = a := rfl
theorem aj {α : Type _} (a b : α) : cond false a b = b := rfl
end Go.Proofs.aG
namespace Go.Proofs.aG
open Go.Proofs Ab
set_option maxRecDepth 100000
set_option maxHeartbeats 2000000
section
open Go.Shelf Go.RowKit Go.Sort
def B8:Go.Shelf.Ren:=⟨fun | 6=>78 | 15=>90 | 14=>89 | 28=>102 | 29=>103 | 20=>94 | 21=>95 | 22=>96 | 23=>97 | 24=>98 | 25=>99 | 26=>100 | 27=>101 | 46=>105 | 47=>106 | 48=>107 | 49=>108 | 50=>109 | 57=>111 | n=>n,fun | 22=>34 | 24=>23 | 25=>118 | 3=>3 | 39=>67 | 0=>0 | 53=>123 | 55=>125 | 4=>4 | 46=>133 | 45=>132 | 50=>137 | 5=>5 | 9=>9 | 66=>139 | 70=>143 | 76=>145 | 77=>146 | n=>n,fun | n=>n⟩
theorem Sn:Go.Proofs.SlLaysF0.n6 Try.prog B8:={
 mixed:=by kernel_rfl
 f6:=⟨Try.f78.name,by decide,Try.func78.trans (congrArg some (by kernel_rfl))⟩
 f14:=⟨Try.f89.name,by decide,Try.func89.trans (congrArg some (by kernel_rfl))⟩
 f15:=Try.func90.trans (congrArg some (by kernel_rfl))
 f20:=⟨Try.f94.name,by decide,Try.func94.trans (congrArg some (by kernel_rfl))⟩
 f21:=⟨Try.f95.name,by decide,Try.func95.trans (congrArg some (by kernel_rfl))⟩
 f22:=⟨Try.f96.name,by decide,Try.func96.trans (congrArg some (by kernel_rfl))⟩
 f23:=⟨Try.f97.name,by decide,Try.func97.trans (congrArg some (by kernel_rfl))⟩
 f24:=⟨Try.f98.name,by decide,Try.func98.trans (congrArg some (by kernel_rfl))⟩
 f25:=⟨Try.f99.name,by decide,Try.func99.trans (congrArg some (by kernel_rfl))⟩
 f26:=⟨Try.f100.name,by decide,Try.func100.trans (congrArg some (by kernel_rfl))⟩
 f27:=⟨Try.f101.name,by decide,Try.func101.trans (congrArg some (by kernel_rfl))⟩
 f28:=Try.func102.trans (congrArg some (by kernel_rfl))
 f29:=Try.func103.trans (congrArg some (by kernel_rfl))
 f46:=⟨Try.f105.name,by decide,Try.func105.trans (congrArg some (by kernel_rfl))⟩
 f47:=Try.func106.trans (congrArg some (by kernel_rfl))
 f48:=Try.func107.trans (congrArg some (by kernel_rfl))
 f49:=⟨Try.f108.name,by decide,Try.func108.trans (congrArg some (by kernel_rfl))⟩
 f50:=⟨Try.f109.name,by decide,Try.func109.trans (congrArg some (by kernel_rfl))⟩
 f57:=⟨Try.f111.name,by decide,Try.func111.trans (congrArg some (by kernel_rfl))⟩
 t0:=Try.underlying0
 a0:=Try.isAgg0
 z0:=Try.sizeOf0
 v0:=Try.zeroValue0
 t3:=Try.underlying3
 a3:=Try.isAgg3
 z3:=Try.sizeOf3
 v3:=Try.zeroValue3
 t4:=Try.underlying4
 a4:=Try.isAgg4
 z4:=Try.sizeOf4
 v4:=Try.zeroValue4
 t5:=Try.underlying5
 a5:=Try.isAgg5
 z5:=Try.sizeOf5
 v5:=Try.zeroValue5
 t9:=Try.underlying9
 a9:=Try.isAgg9
 z9:=Try.sizeOf9
 v9:=Try.zeroValue9
 t22:=Try.underlying34
 a22:=Try.isAgg34
 z22:=Try.sizeOf34
 v22:=Try.zeroValue34
 t25:=Try.underlying118
 a25:=Try.isAgg118
 z25:=Try.sizeOf118
 v25:=Try.zeroValue118
 t39:=Try.underlying67
 a39:=Try.isAgg67
 z39:=Try.sizeOf67
 v39:=Try.zeroValue67
 t45:=Try.underlying132
 a45:=Try.isAgg132
 z45:=Try.sizeOf132
 v45:=Try.zeroValue132
 t46:=Try.underlying133
 a46:=Try.isAgg133
 z46:=Try.sizeOf133
 v46:=Try.zeroValue133
 t50:=Try.underlying137
 a50:=Try.isAgg137
 z50:=Try.sizeOf137
 v50:=Try.zeroValue137
 t53:=Try.underlying123
 a53:=Try.isAgg123
 z53:=Try.sizeOf123
 v53:=Try.zeroValue123
 t55:=Try.underlying125
 a55:=Try.isAgg125
 z55:=Try.sizeOf125
 v55:=Try.zeroValue125
 t66:=Try.underlying139
 a66:=Try.isAgg139
 z66:=Try.sizeOf139
 v66:=Try.zeroValue139
 t70:=Try.underlying143
 a70:=Try.isAgg143
 z70:=Try.sizeOf143
 v70:=Try.zeroValue143
 t76:=Try.underlying145
 a76:=Try.isAgg145
 z76:=Try.sizeOf145
 v76:=Try.zeroValue145
 t77:=Try.underlying146
 a77:=Try.isAgg146
 z77:=Try.sizeOf146
 v77:=Try.zeroValue146}
def Pm:Go.Shelf.Ren:=⟨fun | 5=>74 | 7=>88 | n=>n,fun | 22=>3 | 3=>3 | 4=>4 | n=>n,fun | n=>n⟩
theorem acM:Go.Proofs.SlLaysC2.n5 Try.prog Pm:={
 mixed:=by kernel_rfl
 f5:=⟨Try.f74.name,by decide,Try.func74.trans (congrArg some (by kernel_rfl))⟩
 f7:=⟨Try.f88.name,by decide,Try.func88.trans (congrArg some (by kernel_rfl))⟩
 t3:=Try.underlying3
 a3:=Try.isAgg3
 z3:=Try.sizeOf3
 v3:=Try.zeroValue3
 t4:=Try.underlying4
 a4:=Try.isAgg4
 z4:=Try.sizeOf4
 v4:=Try.zeroValue4
 t22:=Try.underlying3
 a22:=Try.isAgg3
 z22:=Try.sizeOf3
 v22:=Try.zeroValue3}
theorem Sp (x y:Int×Int) (W:World):Calls Try.prog 79 #[.agg #[.int .i64 x.1,.int .i64 x.2],.agg #[.int .i64 y.1,.int .i64 y.2]] W fun e w'=>e= .returned (.int .i64 (Lib.compareInt x.1 y.1))∧∃q os',w'=grow (W.drewN q) os':=by
 have Q':=fun W'=>AnyG.cmp_Compare_int acM x.1 y.1 W'
 change ∀W',Calls Try.prog 74 _ _ _ at Q'
 generalize Lib.compareInt x.1 y.1=r at Q' ⊢
 go_enter Try.func79,Try.ntmps79
 go_wp2_with (go_at_call 74;refine (Q' _).mono ?_;rintro e w' ⟨rfl,rfl⟩)
 go_ret
 exact ⟨rfl,0,_,by rw[alloc_eq_grow,alloc_eq_grow,grow_grow];rfl⟩
theorem Sq:∀args w,(callFunc 78 args).run Try.prog w= .ok (.enter 78 args) w:=enters_of Try.func78 (by kernel_rfl) rfl
theorem Sr:∀args w,(callFunc 79 args).run Try.prog w= .ok (.enter 79 args) w:=enters_of Try.func79 (by kernel_rfl) rfl
theorem WJ:Nw Try.prog 78 79 where
 nothing p cap fv w:=AnyF.slices_SortFunc_none (P:=Try.prog) (ρ:=B8) {Sn with} p cap fv w
 row eg off cap d w hH hblk OH:=AnyQ.slices_SortFunc_eq Sn 2 Try.isAgg23 Try.sizeOf23 vN (fun _=>rfl) (fun x v hv=>by simp [vN] at hv;rcases hv with rfl | rfl<;>rfl) uK afx 79 #[] eg off cap d w Sr (fun _ _ _ _ x y=>Sp x y _) hH hblk (by omega)
end
end Go.Proofs.aG
