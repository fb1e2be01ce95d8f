/-
  The contract of the program's DyMul.
-/
import Derived.Test.YtagaofpkfpfilaaGreatDoorDy11
import Derived.Deep.DeepCutAuto
namespace Go.Proofs.YtagaofpkfpfilaaGreatDoor
open Go.RowKit
set_option linter.unusedVariables false
set_option maxRecDepth 8000
set_option linter.unusedSimpArgs false

end Go.Proofs.YtagaofpkfpfilaaGreatDoor
