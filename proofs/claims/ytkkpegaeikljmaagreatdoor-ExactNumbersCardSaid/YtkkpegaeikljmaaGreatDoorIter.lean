import Derived.Shelf.SlIter.Nil
import Derived.Shelf.SortM.Plain
import Derived.Shelf.SortM.SortNone
import Derived.Ground.GgzProg
import Derived.Ground.SlgmProg
import Derived.Test.YtkkpegaeikljmaaGreatDoorProg
import Derived.Test.YtkkpegaeikljmaaGreatDoorA4
namespace Go.Proofs
open Go.RowKit Go.Maps Go.Sort Go.Shelf
def Tryz.D8:Go.Shelf.Ren:=⟨fun | 7=>107 | 10=>150 | n=>n,fun | 23=>160 | 26=>9 | 3=>4 | 28=>163 | 0=>0 | 27=>162 | 33=>53 | 4=>4 | n=>n,fun | n=>n⟩
theorem Tryz.TE:Go.Proofs.SlLaysZ.n7 Tryz.prog Tryz.D8:={
 mixed:=by kernel_rfl
 f7:=⟨Tryz.f107.name,by decide,Tryz.func107.trans (congrArg some (by kernel_rfl))⟩
 f10:=⟨Tryz.f150.name,by decide,Tryz.func150.trans (congrArg some (by kernel_rfl))⟩
 t0:=Tryz.underlying0
 a0:=Tryz.isAgg0
 z0:=Tryz.sizeOf0
 v0:=Tryz.zeroValue0
 t4:=Tryz.underlying4
 a4:=Tryz.isAgg4
 z4:=Tryz.sizeOf4
 v4:=Tryz.zeroValue4
 t23:=Tryz.underlying160
 a23:=Tryz.isAgg160
 z23:=Tryz.sizeOf160
 v23:=Tryz.zeroValue160
 t26:=Tryz.underlying9
 a26:=Tryz.isAgg9
 z26:=Tryz.sizeOf9
 v26:=Tryz.zeroValue9
 t27:=Tryz.underlying162
 a27:=Tryz.isAgg162
 z27:=Tryz.sizeOf162
 v27:=Tryz.zeroValue162
 t28:=Tryz.underlying163
 a28:=Tryz.isAgg163
 z28:=Tryz.sizeOf163
 v28:=Tryz.zeroValue163
 t33:=Tryz.underlying53
 a33:=Tryz.isAgg53
 z33:=Tryz.sizeOf53
 v33:=Tryz.zeroValue53}
def Tryz.zL:Go.Shelf.Ren:=⟨fun | 6=>106 | 8=>148 | 9=>149 | 11=>171 | 13=>173 | 12=>172 | 23=>194 | 24=>132 | 14=>186 | 15=>187 | 16=>188 | 17=>189 | 18=>190 | 19=>191 | 20=>151 | 21=>192 | 22=>193 | 25=>197 | 26=>198 | 27=>199 | 28=>200 | 29=>201 | 30=>174 | 31=>202 | n=>n,fun | 26=>9 | 28=>163 | 24=>87 | 0=>0 | 3=>3 | 37=>194 | 48=>208 | 50=>54 | 4=>4 | 40=>250 | 39=>249 | 45=>167 | 5=>5 | 9=>9 | 51=>256 | 55=>260 | 57=>262 | 58=>263 | 33=>53 | n=>n,fun | n=>n⟩
theorem Tryz.Vv:Go.Proofs.SlLaysZ.n6 Tryz.prog Tryz.zL:={
 mixed:=by kernel_rfl
 f6:=⟨Tryz.f106.name,by decide,Tryz.func106.trans (congrArg some (by kernel_rfl))⟩
 f8:=⟨Tryz.f148.name,by decide,Tryz.func148.trans (congrArg some (by kernel_rfl))⟩
 f11:=⟨Tryz.f171.name,by decide,Tryz.func171.trans (congrArg some (by kernel_rfl))⟩
 t0:=Tryz.underlying0
 a0:=Tryz.isAgg0
 z0:=Tryz.sizeOf0
 v0:=Tryz.zeroValue0
 t24:=Tryz.underlying87
 a24:=Tryz.isAgg87
 z24:=Tryz.sizeOf87
 v24:=Tryz.zeroValue87
 t26:=Tryz.underlying9
 a26:=Tryz.isAgg9
 z26:=Tryz.sizeOf9
 v26:=Tryz.zeroValue9
 t28:=Tryz.underlying163
 a28:=Tryz.isAgg163
 z28:=Tryz.sizeOf163
 v28:=Tryz.zeroValue163
 i26:=by kernel_rfl}
def Tryz.M1:Go.Shelf.Ren:=⟨fun | 6=>149 | 8=>173 | 9=>172 | 19=>194 | 20=>132 | 21=>186 | 22=>187 | 23=>188 | 24=>189 | 25=>190 | 26=>191 | 27=>151 | 28=>192 | 29=>193 | 36=>197 | 31=>198 | 32=>199 | 37=>200 | 38=>201 | 39=>174 | 41=>202 | n=>n,fun | 27=>87 | 29=>9 | 3=>3 | 32=>194 | 26=>87 | 0=>0 | 44=>208 | 46=>54 | 4=>4 | 36=>250 | 35=>249 | 41=>167 | 5=>5 | 9=>9 | 53=>256 | 57=>260 | 63=>262 | 64=>263 | n=>n,fun | n=>n⟩
theorem Tryz.TF:Go.Proofs.SlLaysM.n6 Tryz.prog Tryz.M1:={
 mixed:=by kernel_rfl
 f6:=⟨Tryz.f149.name,by decide,Tryz.func149.trans (congrArg some (by kernel_rfl))⟩
 f8:=Tryz.func173.trans (congrArg some (by kernel_rfl))
 f9:=⟨Tryz.f172.name,by decide,Tryz.func172.trans (congrArg some (by kernel_rfl))⟩
 f19:=Tryz.func194.trans (congrArg some (by kernel_rfl))
 f20:=Tryz.func132.trans (congrArg some (by kernel_rfl))
 f21:=⟨Tryz.f186.name,by decide,Tryz.func186.trans (congrArg some (by kernel_rfl))⟩
 f22:=⟨Tryz.f187.name,by decide,Tryz.func187.trans (congrArg some (by kernel_rfl))⟩
 f23:=⟨Tryz.f188.name,by decide,Tryz.func188.trans (congrArg some (by kernel_rfl))⟩
 f24:=⟨Tryz.f189.name,by decide,Tryz.func189.trans (congrArg some (by kernel_rfl))⟩
 f25:=⟨Tryz.f190.name,by decide,Tryz.func190.trans (congrArg some (by kernel_rfl))⟩
 f26:=⟨Tryz.f191.name,by decide,Tryz.func191.trans (congrArg some (by kernel_rfl))⟩
 f27:=⟨Tryz.f151.name,by decide,Tryz.func151.trans (congrArg some (by kernel_rfl))⟩
 f28:=⟨Tryz.f192.name,by decide,Tryz.func192.trans (congrArg some (by kernel_rfl))⟩
 f29:=⟨Tryz.f193.name,by decide,Tryz.func193.trans (congrArg some (by kernel_rfl))⟩
 f31:=Tryz.func198.trans (congrArg some (by kernel_rfl))
 f32:=Tryz.func199.trans (congrArg some (by kernel_rfl))
 f36:=⟨Tryz.f197.name,by decide,Tryz.func197.trans (congrArg some (by kernel_rfl))⟩
 f37:=⟨Tryz.f200.name,by decide,Tryz.func200.trans (congrArg some (by kernel_rfl))⟩
 f38:=⟨Tryz.f201.name,by decide,Tryz.func201.trans (congrArg some (by kernel_rfl))⟩
 f39:=⟨Tryz.f174.name,by decide,Tryz.func174.trans (congrArg some (by kernel_rfl))⟩
 f41:=⟨Tryz.f202.name,by decide,Tryz.func202.trans (congrArg some (by kernel_rfl))⟩
 t0:=Tryz.underlying0
 a0:=Tryz.isAgg0
 z0:=Tryz.sizeOf0
 v0:=Tryz.zeroValue0
 t3:=Tryz.underlying3
 a3:=Tryz.isAgg3
 z3:=Tryz.sizeOf3
 v3:=Tryz.zeroValue3
 t4:=Tryz.underlying4
 a4:=Tryz.isAgg4
 z4:=Tryz.sizeOf4
 v4:=Tryz.zeroValue4
 t5:=Tryz.underlying5
 a5:=Tryz.isAgg5
 z5:=Tryz.sizeOf5
 v5:=Tryz.zeroValue5
 t9:=Tryz.underlying9
 a9:=Tryz.isAgg9
 z9:=Tryz.sizeOf9
 v9:=Tryz.zeroValue9
 t26:=Tryz.underlying87
 a26:=Tryz.isAgg87
 z26:=Tryz.sizeOf87
 v26:=Tryz.zeroValue87
 t27:=Tryz.underlying87
 a27:=Tryz.isAgg87
 z27:=Tryz.sizeOf87
 v27:=Tryz.zeroValue87
 t29:=Tryz.underlying9
 a29:=Tryz.isAgg9
 z29:=Tryz.sizeOf9
 v29:=Tryz.zeroValue9
 t32:=Tryz.underlying194
 a32:=Tryz.isAgg194
 z32:=Tryz.sizeOf194
 v32:=Tryz.zeroValue194
 t35:=Tryz.underlying249
 a35:=Tryz.isAgg249
 z35:=Tryz.sizeOf249
 v35:=Tryz.zeroValue249
 t36:=Tryz.underlying250
 a36:=Tryz.isAgg250
 z36:=Tryz.sizeOf250
 v36:=Tryz.zeroValue250
 t41:=Tryz.underlying167
 a41:=Tryz.isAgg167
 z41:=Tryz.sizeOf167
 v41:=Tryz.zeroValue167
 t44:=Tryz.underlying208
 a44:=Tryz.isAgg208
 z44:=Tryz.sizeOf208
 v44:=Tryz.zeroValue208
 t46:=Tryz.underlying54
 a46:=Tryz.isAgg54
 z46:=Tryz.sizeOf54
 v46:=Tryz.zeroValue54
 t53:=Tryz.underlying256
 a53:=Tryz.isAgg256
 z53:=Tryz.sizeOf256
 v53:=Tryz.zeroValue256
 t57:=Tryz.underlying260
 a57:=Tryz.isAgg260
 z57:=Tryz.sizeOf260
 v57:=Tryz.zeroValue260
 t63:=Tryz.underlying262
 a63:=Tryz.isAgg262
 z63:=Tryz.sizeOf262
 v63:=Tryz.zeroValue262
 t64:=Tryz.underlying263
 a64:=Tryz.isAgg263
 z64:=Tryz.sizeOf263
 v64:=Tryz.zeroValue263}
theorem Tryz.Yv (m:Nat):AnyZ.SortsIn Tryz.prog Tryz.zL Fence.wide m:=
 ⟨fun fO off cap ss W hH EG QO=>callsIn_wide.2 (AnyM.slices_Sort_string Tryz.TF fO off cap ss W hH EG QO),
  fun p cap W=>callsIn_wide.2 (AnyM.slices_Sort_string_none Tryz.TF p cap W)⟩
theorem Tryz.Vw:Ab.Jc Tryz.prog 106 150 9:=fun b c nn W D0 R gL X_ afJ ak0 j6=>by
 have ak1:SeqGives Fence.wide 2 Tryz.prog 150 #[.pointer (some ⟨c,0,none⟩)] encStr (fun ss=>ss.Perm (strKeys D0)) (Maps.size D0) W:=
  AnyZ.keys_gives (ρ:=Tryz.D8) {Tryz.TE with} Fence.wide _ trivial rfl (by omega) c b nn D0 _ gL X_ afJ
 exact callsIn_wide.1 (AnyZ.sorted_in Tryz.Vv Fence.wide 5 trivial trivial trivial trivial rfl (by omega) (Tryz.Yv _) (enters_of Tryz.func149 (by kernel_rfl) rfl) 150 #[.pointer (some ⟨c,0,none⟩)] trivial (enters_of Tryz.func150 (by kernel_rfl) rfl) _ _ ak0 j6 _ ak1)
theorem Tryz.Vz:Ab.Je Tryz.prog 107 150 160:=fun mb W=>callsIn_wide.1 (AnyZ.keys_in Tryz.TE Fence.wide 5 trivial rfl mb W)
theorem Tryz.VA:∀args w,(callFunc 106 args).run Tryz.prog w= .ok (.enter 106 args) w:=enters_of Tryz.func106 (by kernel_rfl) rfl
theorem Tryz.VB:∀args w,(callFunc 107 args).run Tryz.prog w= .ok (.enter 107 args) w:=enters_of Tryz.func107 (by kernel_rfl) rfl
end Go.Proofs
