/-
  slices.Concat over rows of pointers: one list of them all.
-/
import Derived.Test.YtgoncjcnakkaoaaGreatDoorSqg
import Derived.Lib.AppendZeros
namespace Go.Proofs.YtgoncjcnakkaoaaGreatDoor
open Go.RowKit
set_option linter.unusedVariables false
set_option maxRecDepth 8000
set_option linter.unusedSimpArgs false

/-- The first m pointers that G names. -/
def ptrs (G : Nat → Nat) (m : Nat) : List Value := (List.range m).map (fun p => Value.pointer (some ⟨G p, 0, none⟩))
theorem ptrs_length (G : Nat → Nat) (m : Nat) : (ptrs G m).length = m := by simp [ptrs]
theorem ptrs_at (G : Nat → Nat) {m p : Nat} (h : p < m) : (ptrs G m)[p]? = some (Value.pointer (some ⟨G p, 0, none⟩)) := by simp [ptrs, h]
theorem ptrs_add (G : Nat → Nat) (m n : Nat) : ptrs G (m + n) = ptrs G m ++ ptrs (fun j => G (m + j)) n := by
  unfold ptrs
  rw [List.range_add, List.map_append, List.map_map]
  rfl

end Go.Proofs.YtgoncjcnakkaoaaGreatDoor
