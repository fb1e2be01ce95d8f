/-
  The contract of the program's DyMul.
-/
import Derived.Test.YtefnblaphkookaaGreatDoorDy11
import Derived.Deep.DeepCutAuto
namespace Go.Proofs.YtefnblaphkookaaGreatDoor
open Go.RowKit
set_option linter.unusedVariables false
set_option maxRecDepth 8000
set_option linter.unusedSimpArgs false

end Go.Proofs.YtefnblaphkookaaGreatDoor
