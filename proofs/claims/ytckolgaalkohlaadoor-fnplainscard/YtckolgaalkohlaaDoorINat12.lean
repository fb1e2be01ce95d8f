/-
  The contract of the program's NatAdd.
-/
import Derived.Test.YtckolgaalkohlaaDoorBF
namespace Go.Proofs.YtckolgaalkohlaaDoor
open Go.RowKit
set_option linter.unusedVariables false
set_option maxRecDepth 8000
set_option linter.unusedSimpArgs false

/-- What is told: a number, if it is to be told and not too long. -/
def ansL (c : Bool) (n : Nat) : List Int := if c = true then tell (limbs n) else []
def ansB (c : Bool) (n : Nat) : Bool := c && decide ((limbs n).length ≤ 100)
theorem ansL_no {c : Bool} {n : Nat} (h : c = false) : ansL c n = [] := by unfold ansL; rw [h]; rfl
theorem ansB_no {c : Bool} {n : Nat} (h : c = false) : ansB c n = false := by unfold ansB; rw [h]; rfl
theorem ansL_yes {c : Bool} {n : Nat} (h : c = true) : ansL c n = tell (limbs n) := by unfold ansL; rw [h]; rfl
theorem ansB_yes {c : Bool} {n : Nat} (h : c = true) : ansB c n = decide ((limbs n).length ≤ 100) := by unfold ansB; rw [h]; rfl
theorem ansL_len (c : Bool) (n : Nat) : (ansL c n).length ≤ 100 := by
  unfold ansL tell
  split
  · split
    · assumption
    · simp
  · simp

end Go.Proofs.YtckolgaalkohlaaDoor
