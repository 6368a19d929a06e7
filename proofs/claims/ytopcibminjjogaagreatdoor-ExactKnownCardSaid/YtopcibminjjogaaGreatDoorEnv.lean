/-
  PROVED HERE: what the evaluator takes for known of this program (four functions without a text, maps.Keys and slices.Sorted) is what the model says of them. No condition.
-/
import Derived.Test.YtopcibminjjogaaGreatDoorIter
import Derived.Test.YtopcibminjjogaaGreatDoorCard
namespace Go.Proofs.YtopcibminjjogaaGreatDoor
open Ab

noncomputable def pureOf (f : FuncId) : Option (List AV → Option AV) :=
  bif Nat.beq f 117 then some add64A else bif Nat.beq f 191 then some sub64A else bif Nat.beq f 214 then some indexByteA else bif Nat.beq f 184 then some countByteA else none
noncomputable def specialsOf (f : FuncId) : Option (List AV → Heap → Option (AV × Heap)) :=
  bif Nat.beq f 141 then some (sortedA 190 9) else bif Nat.beq f 142 then some (keysA 190 231) else none
noncomputable def env : Env := { P := Tryz.prog, G := 8, pureExt := pureOf, special := specialsOf }

theorem cond_some {α : Type} {b : Bool} {x y : Option α} {r : α} (h : (bif b then x else y) = some r) : (b = true ∧ x = some r) ∨ (b = false ∧ y = some r) := by
  cases b
  · exact .inr ⟨rfl, h⟩
  · exact .inl ⟨rfl, h⟩
theorem at117 : ExtAt Tryz.prog 117 add64Entry := ⟨_, Tryz.func117, by kernel_rfl, by kernel_rfl, by kernel_rfl, by kernel_rfl⟩
theorem at191 : ExtAt Tryz.prog 191 sub64E := ⟨_, Tryz.func191, by kernel_rfl, by kernel_rfl, by kernel_rfl, by kernel_rfl⟩
theorem at214 : ExtAt Tryz.prog 214 Extern.BytealgIndexByte.indexByte := ⟨_, Tryz.func214, by kernel_rfl, by kernel_rfl, by kernel_rfl, by kernel_rfl⟩
theorem at184 : ExtAt Tryz.prog 184 Extern.BytealgCount.count := ⟨_, Tryz.func184, by kernel_rfl, by kernel_rfl, by kernel_rfl, by kernel_rfl⟩
theorem allNames : (Tryz.prog.funcs.toList.all fun fn => !(fn.name == "runtime.NumGoroutine")) = true := by kernel_rfl
theorem envOK : EnvOK env where
  ext := fun f e h => by
    rcases cond_some h with ⟨h1, h2⟩ | ⟨_, h⟩
    · obtain rfl := Nat.eq_of_beq_eq_true h1; obtain rfl := Option.some.inj h2; exact add64_ok at117
    rcases cond_some h with ⟨h1, h2⟩ | ⟨_, h⟩
    · obtain rfl := Nat.eq_of_beq_eq_true h1; obtain rfl := Option.some.inj h2; exact sub64_ok at191
    rcases cond_some h with ⟨h1, h2⟩ | ⟨_, h⟩
    · obtain rfl := Nat.eq_of_beq_eq_true h1; obtain rfl := Option.some.inj h2; exact indexByte_ok at214
    rcases cond_some h with ⟨h1, h2⟩ | ⟨_, h⟩
    · obtain rfl := Nat.eq_of_beq_eq_true h1; obtain rfl := Option.some.inj h2; exact countByte_ok at184
    cases h
  special := fun f g h => by
    rcases cond_some h with ⟨h1, h2⟩ | ⟨_, h⟩
    · obtain rfl := Nat.eq_of_beq_eq_true h1; obtain rfl := Option.some.inj h2
      exact sortedA_ok (E := env) Tryz.underlying9 (by kernel_rfl) Tryz.enters141 Tryz.sortsKeys
    rcases cond_some h with ⟨h1, h2⟩ | ⟨_, h⟩
    · obtain rfl := Nat.eq_of_beq_eq_true h1; obtain rfl := Option.some.inj h2
      exact keysA_ok (E := env) Tryz.enters142 Tryz.makesKeys
    cases h
  names := fun f fn h e => by
    have hm : fn ∈ Tryz.prog.funcs.toList := by
      have h : Tryz.prog.funcs[f]? = some fn := h
      rw [← Array.getElem?_toList] at h
      exact List.mem_of_getElem? h
    have := List.all_eq_true.1 allNames fn hm
    rw [e] at this
    simp at this
  mixed := by kernel_rfl
end Go.Proofs.YtopcibminjjogaaGreatDoor
