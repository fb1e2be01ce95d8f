/-
  Dyadic numbers: the model's l4align, l4cmp and DyCmp.
-/
import Derived.Test.YtckaecmkidplhaaGreatDoorDy2
import Derived.Test.YtckaecmkidplhaaGreatDoorBK
namespace Go.Proofs.YtckaecmkidplhaaGreatDoor
open Go.RowKit
set_option linter.unusedVariables false
set_option maxRecDepth 8000
set_option linter.unusedSimpArgs false

theorem wval_nil (b : Bool) : wval b [] = 0 := by cases b <;> rfl
end Go.Proofs.YtckaecmkidplhaaGreatDoor

