/-
  DERIVED. MADE BY PROGRAM (lay-iter.mjs) off ytopcibminjjogaagreatdoor.cut.gsa: THE SHELF's CONTRACTS ON 'slices.Sorted(maps.Keys(m))' LAID AT THIS DUMP: 1 map type. NO WALK OF THE LIBRARY's TEXT: each is one application of a contract over any P and ρ (Derived/Shelf/SlIter/, Derived/Shelf/SortM/).
-/
import Derived.Shelf.SlIter.Nil
import Derived.Shelf.SortM.Plain
import Derived.Shelf.SortM.SortNone
import Derived.Ground.GgzProg
import Derived.Ground.SlgmProg
import Derived.Test.YtopcibminjjogaaGreatDoorProg
import Derived.Test.YtopcibminjjogaaGreatDoorAbSorted
namespace Go.Proofs
open Go.RowKit Go.Maps Go.Sort Go.Shelf

-- maps.Keys[map[string]bool,string,bool] (function 142; its iterator 190) · slices.Sorted[string] (141) · slices.Sort[[]string,string] (189) · the map's type 231, the keys' 9
def Tryz.keys142_ren : Go.Shelf.Ren := ⟨fun | 7 => 142 | 10 => 190 | n => n, fun | 23 => 231 | 26 => 9 | 3 => 4 | 28 => 234 | 0 => 0 | 27 => 233 | 33 => 66 | 4 => 4 | n => n, fun | n => n⟩
theorem Tryz.keys142 : Go.Proofs.SlLaysZ.n7 Tryz.prog Tryz.keys142_ren := {
  mixed := by kernel_rfl,
  f7 := ⟨Tryz.f142.name, by decide, Tryz.func142.trans (congrArg some (by kernel_rfl))⟩,
  f10 := ⟨Tryz.f190.name, by decide, Tryz.func190.trans (congrArg some (by kernel_rfl))⟩,
  t0 := Tryz.underlying0,
  a0 := Tryz.isAgg0,
  z0 := Tryz.sizeOf0,
  v0 := Tryz.zeroValue0,
  t4 := Tryz.underlying4,
  a4 := Tryz.isAgg4,
  z4 := Tryz.sizeOf4,
  v4 := Tryz.zeroValue4,
  t23 := Tryz.underlying231,
  a23 := Tryz.isAgg231,
  z23 := Tryz.sizeOf231,
  v23 := Tryz.zeroValue231,
  t26 := Tryz.underlying9,
  a26 := Tryz.isAgg9,
  z26 := Tryz.sizeOf9,
  v26 := Tryz.zeroValue9,
  t27 := Tryz.underlying233,
  a27 := Tryz.isAgg233,
  z27 := Tryz.sizeOf233,
  v27 := Tryz.zeroValue233,
  t28 := Tryz.underlying234,
  a28 := Tryz.isAgg234,
  z28 := Tryz.sizeOf234,
  v28 := Tryz.zeroValue234,
  t33 := Tryz.underlying66,
  a33 := Tryz.isAgg66,
  z33 := Tryz.sizeOf66,
  v33 := Tryz.zeroValue66 }
def Tryz.sorted141_ren : Go.Shelf.Ren := ⟨fun | 6 => 141 | 8 => 188 | 9 => 189 | 11 => 223 | 13 => 164 | 12 => 224 | 23 => 213 | 24 => 172 | 14 => 237 | 15 => 238 | 16 => 239 | 17 => 240 | 18 => 241 | 19 => 242 | 20 => 199 | 21 => 243 | 22 => 244 | 25 => 247 | 26 => 231 | 27 => 232 | 28 => 248 | 29 => 249 | 30 => 226 | 31 => 250 | n => n, fun | 26 => 9 | 28 => 234 | 24 => 96 | 0 => 0 | 3 => 3 | 37 => 153 | 48 => 224 | 50 => 67 | 4 => 4 | 40 => 287 | 39 => 286 | 45 => 240 | 5 => 5 | 9 => 9 | 51 => 305 | 55 => 309 | 57 => 320 | 58 => 321 | 33 => 66 | n => n, fun | n => n⟩
theorem Tryz.sorted141 : Go.Proofs.SlLaysZ.n6 Tryz.prog Tryz.sorted141_ren := {
  mixed := by kernel_rfl,
  f6 := ⟨Tryz.f141.name, by decide, Tryz.func141.trans (congrArg some (by kernel_rfl))⟩,
  f8 := ⟨Tryz.f188.name, by decide, Tryz.func188.trans (congrArg some (by kernel_rfl))⟩,
  f11 := ⟨Tryz.f223.name, by decide, Tryz.func223.trans (congrArg some (by kernel_rfl))⟩,
  t0 := Tryz.underlying0,
  a0 := Tryz.isAgg0,
  z0 := Tryz.sizeOf0,
  v0 := Tryz.zeroValue0,
  t24 := Tryz.underlying96,
  a24 := Tryz.isAgg96,
  z24 := Tryz.sizeOf96,
  v24 := Tryz.zeroValue96,
  t26 := Tryz.underlying9,
  a26 := Tryz.isAgg9,
  z26 := Tryz.sizeOf9,
  v26 := Tryz.zeroValue9,
  t28 := Tryz.underlying234,
  a28 := Tryz.isAgg234,
  z28 := Tryz.sizeOf234,
  v28 := Tryz.zeroValue234,
  i26 := by kernel_rfl }
def Tryz.sort189_ren : Go.Shelf.Ren := ⟨fun | 6 => 189 | 8 => 164 | 9 => 224 | 19 => 213 | 20 => 172 | 21 => 237 | 22 => 238 | 23 => 239 | 24 => 240 | 25 => 241 | 26 => 242 | 27 => 199 | 28 => 243 | 29 => 244 | 36 => 247 | 31 => 231 | 32 => 232 | 37 => 248 | 38 => 249 | 39 => 226 | 41 => 250 | n => n, fun | 27 => 96 | 29 => 9 | 3 => 3 | 32 => 153 | 26 => 96 | 0 => 0 | 44 => 224 | 46 => 67 | 4 => 4 | 36 => 287 | 35 => 286 | 41 => 240 | 5 => 5 | 9 => 9 | 53 => 305 | 57 => 309 | 63 => 320 | 64 => 321 | n => n, fun | n => n⟩
theorem Tryz.sort189 : Go.Proofs.SlLaysM.n6 Tryz.prog Tryz.sort189_ren := {
  mixed := by kernel_rfl,
  f6 := ⟨Tryz.f189.name, by decide, Tryz.func189.trans (congrArg some (by kernel_rfl))⟩,
  f8 := Tryz.func164.trans (congrArg some (by kernel_rfl)),
  f9 := ⟨Tryz.f224.name, by decide, Tryz.func224.trans (congrArg some (by kernel_rfl))⟩,
  f19 := Tryz.func213.trans (congrArg some (by kernel_rfl)),
  f20 := Tryz.func172.trans (congrArg some (by kernel_rfl)),
  f21 := ⟨Tryz.f237.name, by decide, Tryz.func237.trans (congrArg some (by kernel_rfl))⟩,
  f22 := ⟨Tryz.f238.name, by decide, Tryz.func238.trans (congrArg some (by kernel_rfl))⟩,
  f23 := ⟨Tryz.f239.name, by decide, Tryz.func239.trans (congrArg some (by kernel_rfl))⟩,
  f24 := ⟨Tryz.f240.name, by decide, Tryz.func240.trans (congrArg some (by kernel_rfl))⟩,
  f25 := ⟨Tryz.f241.name, by decide, Tryz.func241.trans (congrArg some (by kernel_rfl))⟩,
  f26 := ⟨Tryz.f242.name, by decide, Tryz.func242.trans (congrArg some (by kernel_rfl))⟩,
  f27 := ⟨Tryz.f199.name, by decide, Tryz.func199.trans (congrArg some (by kernel_rfl))⟩,
  f28 := ⟨Tryz.f243.name, by decide, Tryz.func243.trans (congrArg some (by kernel_rfl))⟩,
  f29 := ⟨Tryz.f244.name, by decide, Tryz.func244.trans (congrArg some (by kernel_rfl))⟩,
  f31 := Tryz.func231.trans (congrArg some (by kernel_rfl)),
  f32 := Tryz.func232.trans (congrArg some (by kernel_rfl)),
  f36 := ⟨Tryz.f247.name, by decide, Tryz.func247.trans (congrArg some (by kernel_rfl))⟩,
  f37 := ⟨Tryz.f248.name, by decide, Tryz.func248.trans (congrArg some (by kernel_rfl))⟩,
  f38 := ⟨Tryz.f249.name, by decide, Tryz.func249.trans (congrArg some (by kernel_rfl))⟩,
  f39 := ⟨Tryz.f226.name, by decide, Tryz.func226.trans (congrArg some (by kernel_rfl))⟩,
  f41 := ⟨Tryz.f250.name, by decide, Tryz.func250.trans (congrArg some (by kernel_rfl))⟩,
  t0 := Tryz.underlying0,
  a0 := Tryz.isAgg0,
  z0 := Tryz.sizeOf0,
  v0 := Tryz.zeroValue0,
  t3 := Tryz.underlying3,
  a3 := Tryz.isAgg3,
  z3 := Tryz.sizeOf3,
  v3 := Tryz.zeroValue3,
  t4 := Tryz.underlying4,
  a4 := Tryz.isAgg4,
  z4 := Tryz.sizeOf4,
  v4 := Tryz.zeroValue4,
  t5 := Tryz.underlying5,
  a5 := Tryz.isAgg5,
  z5 := Tryz.sizeOf5,
  v5 := Tryz.zeroValue5,
  t9 := Tryz.underlying9,
  a9 := Tryz.isAgg9,
  z9 := Tryz.sizeOf9,
  v9 := Tryz.zeroValue9,
  t26 := Tryz.underlying96,
  a26 := Tryz.isAgg96,
  z26 := Tryz.sizeOf96,
  v26 := Tryz.zeroValue96,
  t27 := Tryz.underlying96,
  a27 := Tryz.isAgg96,
  z27 := Tryz.sizeOf96,
  v27 := Tryz.zeroValue96,
  t29 := Tryz.underlying9,
  a29 := Tryz.isAgg9,
  z29 := Tryz.sizeOf9,
  v29 := Tryz.zeroValue9,
  t32 := Tryz.underlying153,
  a32 := Tryz.isAgg153,
  z32 := Tryz.sizeOf153,
  v32 := Tryz.zeroValue153,
  t35 := Tryz.underlying286,
  a35 := Tryz.isAgg286,
  z35 := Tryz.sizeOf286,
  v35 := Tryz.zeroValue286,
  t36 := Tryz.underlying287,
  a36 := Tryz.isAgg287,
  z36 := Tryz.sizeOf287,
  v36 := Tryz.zeroValue287,
  t41 := Tryz.underlying240,
  a41 := Tryz.isAgg240,
  z41 := Tryz.sizeOf240,
  v41 := Tryz.zeroValue240,
  t44 := Tryz.underlying224,
  a44 := Tryz.isAgg224,
  z44 := Tryz.sizeOf224,
  v44 := Tryz.zeroValue224,
  t46 := Tryz.underlying67,
  a46 := Tryz.isAgg67,
  z46 := Tryz.sizeOf67,
  v46 := Tryz.zeroValue67,
  t53 := Tryz.underlying305,
  a53 := Tryz.isAgg305,
  z53 := Tryz.sizeOf305,
  v53 := Tryz.zeroValue305,
  t57 := Tryz.underlying309,
  a57 := Tryz.isAgg309,
  z57 := Tryz.sizeOf309,
  v57 := Tryz.zeroValue309,
  t63 := Tryz.underlying320,
  a63 := Tryz.isAgg320,
  z63 := Tryz.sizeOf320,
  v63 := Tryz.zeroValue320,
  t64 := Tryz.underlying321,
  a64 := Tryz.isAgg321,
  z64 := Tryz.sizeOf321,
  v64 := Tryz.zeroValue321 }

/-- slices.Sort's two contracts at this dump, at the fence that asks nothing. -/
theorem Tryz.sorts141 (m : Nat) : AnyZ.SortsIn Tryz.prog Tryz.sorted141_ren Fence.wide m :=
  ⟨fun blk off cap ss W hH hblk hsz => callsIn_wide.2 (AnyM.slices_Sort_string Tryz.sort189 blk off cap ss W hH hblk hsz),
   fun p cap W => callsIn_wide.2 (AnyM.slices_Sort_string_none Tryz.sort189 p cap W)⟩


theorem Tryz.sortsKeys : Ab.SortsKeys Tryz.prog 141 190 9 := fun b c nn W D0 R hlt hcell hown hmax hbytes => by
  have hseq : SeqGives Fence.wide 2 Tryz.prog 190 #[.pointer (some ⟨c, 0, none⟩)] encStr (fun ss => ss.Perm (strKeys D0)) (Maps.size D0) W :=
    AnyZ.keys_gives (ρ := Tryz.keys142_ren) { Tryz.keys142 with } Fence.wide _ trivial rfl (by omega) c b nn D0 _ hlt hcell hown
  exact callsIn_wide.1 (AnyZ.sorted_in Tryz.sorted141 Fence.wide 5 trivial trivial trivial trivial rfl (by omega) (Tryz.sorts141 _) (enters_of Tryz.func189 (by kernel_rfl) rfl) 190 #[.pointer (some ⟨c, 0, none⟩)] trivial (enters_of Tryz.func190 (by kernel_rfl) rfl) _ _ hmax hbytes _ hseq)
theorem Tryz.makesKeys : Ab.MakesKeys Tryz.prog 142 190 231 := fun mb W => callsIn_wide.1 (AnyZ.keys_in Tryz.keys142 Fence.wide 5 trivial rfl mb W)
theorem Tryz.enters141 : ∀ args w, (callFunc 141 args).run Tryz.prog w = .ok (.enter 141 args) w := enters_of Tryz.func141 (by kernel_rfl) rfl
theorem Tryz.enters142 : ∀ args w, (callFunc 142 args).run Tryz.prog w = .ok (.enter 142 args) w := enters_of Tryz.func142 (by kernel_rfl) rfl
end Go.Proofs
