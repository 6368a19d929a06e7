/-
  PROVED HERE: what the evaluator takes for known of this program (four functions without a text, maps.Keys and slices.Sorted) is what the model says of them. No condition.
-/
import Derived.Test.YtaiemlmlompmmaaGreatDoorIter
import Derived.Test.YtaiemlmlompmmaaGreatDoorVals
namespace Go.Proofs.YtaiemlmlompmmaaGreatDoor
open Ab
theorem cond_some {α : Type} {b : Bool} {x y : Option α} {r : α} (h : (bif b then x else y) = some r) : (b = true ∧ x = some r) ∨ (b = false ∧ y = some r) := by
  cases b
  · exact .inr ⟨rfl, h⟩
  · exact .inl ⟨rfl, h⟩
theorem at262 : ExtAt Tryz.prog 262 add64Entry := ⟨_, Tryz.func262, by kernel_rfl, by kernel_rfl, by kernel_rfl, by kernel_rfl⟩
theorem at263 : ExtAt Tryz.prog 263 sub64E := ⟨_, Tryz.func263, by kernel_rfl, by kernel_rfl, by kernel_rfl, by kernel_rfl⟩
theorem at241 : ExtAt Tryz.prog 241 Extern.BytealgIndexByte.indexByte := ⟨_, Tryz.func241, by kernel_rfl, by kernel_rfl, by kernel_rfl, by kernel_rfl⟩
theorem at203 : ExtAt Tryz.prog 203 Extern.BytealgCount.count := ⟨_, Tryz.func203, by kernel_rfl, by kernel_rfl, by kernel_rfl, by kernel_rfl⟩
theorem allNames : (Tryz.prog.funcs.toList.all fun fn => !(fn.name == "runtime.NumGoroutine")) = true := by kernel_rfl
theorem envOK : EnvOK env where
  ext := fun f e h => by
    rcases cond_some h with ⟨h1, h2⟩ | ⟨_, h⟩
    · obtain rfl := Nat.eq_of_beq_eq_true h1; obtain rfl := Option.some.inj h2; exact add64_ok at262
    rcases cond_some h with ⟨h1, h2⟩ | ⟨_, h⟩
    · obtain rfl := Nat.eq_of_beq_eq_true h1; obtain rfl := Option.some.inj h2; exact sub64_ok at263
    rcases cond_some h with ⟨h1, h2⟩ | ⟨_, h⟩
    · obtain rfl := Nat.eq_of_beq_eq_true h1; obtain rfl := Option.some.inj h2; exact indexByte_ok at241
    rcases cond_some h with ⟨h1, h2⟩ | ⟨_, h⟩
    · obtain rfl := Nat.eq_of_beq_eq_true h1; obtain rfl := Option.some.inj h2; exact countByte_ok at203
    cases h
  special := fun f g h => by
    rcases cond_some h with ⟨h1, h2⟩ | ⟨_, h⟩
    · obtain rfl := Nat.eq_of_beq_eq_true h1; obtain rfl := Option.some.inj h2
      exact sortedA_ok (E := env) Tryz.underlying9 (by kernel_rfl) Tryz.enters17 Tryz.sortsKeys
    rcases cond_some h with ⟨h1, h2⟩ | ⟨_, h⟩
    · obtain rfl := Nat.eq_of_beq_eq_true h1; obtain rfl := Option.some.inj h2
      exact keysA_ok (E := env) Tryz.enters18 Tryz.makesKeys
    cases h
  names := fun f fn h e => by
    have hm : fn ∈ Tryz.prog.funcs.toList := by
      have h : Tryz.prog.funcs[f]? = some fn := h
      rw [← Array.getElem?_toList] at h
      exact List.mem_of_getElem? h
    have := List.all_eq_true.1 allNames fn hm
    rw [e] at this
    simp at this
  mixed := by kernel_rfl
end Go.Proofs.YtaiemlmlompmmaaGreatDoor
