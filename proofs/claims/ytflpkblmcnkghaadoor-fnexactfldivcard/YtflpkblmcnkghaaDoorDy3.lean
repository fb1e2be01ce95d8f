/-
  Dyadic numbers: the model's l4align, l4cmp and DyCmp.
-/
import Derived.Test.YtflpkblmcnkghaaDoorDy2
import Derived.Test.YtflpkblmcnkghaaDoorBK
namespace Go.Proofs.YtflpkblmcnkghaaDoor
open Go.RowKit
set_option linter.unusedVariables false
set_option maxRecDepth 8000
set_option linter.unusedSimpArgs false

theorem wval_nil (b : Bool) : wval b [] = 0 := by cases b <;> rfl
/-- A number in its form, with limbs and a power of two that are not too great. -/
def WB (s : Bool) (zs : List Int) (x : Int) : Prop := WN s zs ∧ zs.length ≤ 3000 ∧ -40000 ≤ x ∧ x ≤ 40000
end Go.Proofs.YtflpkblmcnkghaaDoor

