/-
  The model's l2add over lists that need not be numbers.
-/
import Derived.Test.YtckolgaalkohlaaDoorDrawN3
namespace Go.Proofs.YtckolgaalkohlaaDoor
open Go.RowKit
set_option linter.unusedVariables false
set_option maxRecDepth 8000

/-- A list in new memory. -/
def AnyN (w w' : World) (v : Value) : Prop := ∃ zs, Row .i64 true w.heap.size w'.heap.size w' v zs
theorem tdiv_small {x : Int} (h0 : -2 ≤ x) (h1 : x ≤ 131074) : 0 ≤ x.tdiv 65536 ∧ x.tdiv 65536 ≤ 2 := by
  by_cases h : x < 0
  · obtain rfl | rfl : x = -1 ∨ x = -2 := by omega
    · decide
    · decide
  · rw [Int.tdiv_eq_ediv_of_nonneg (by omega)]
    omega
theorem tdiv_zero {x : Int} (h0 : 0 ≤ x) (h1 : x ≤ 2) : x.tdiv 65536 = 0 := by
  rw [Int.tdiv_eq_ediv_of_nonneg h0]
  omega

end Go.Proofs.YtckolgaalkohlaaDoor
