/-
  The norm of a square; MatNorm of the program.
-/
import Derived.Test.YthahoabkehcgbaaGreatDoorqmNr2
import Derived.Test.YthahoabkehcgbaaGreatDoorqmMtr1
namespace Go.Proofs.YthahoabkehcgbaaGreatDoor
open Go.RowKit
set_option linter.unusedVariables false
set_option maxRecDepth 8000
set_option linter.unusedSimpArgs false

end Go.Proofs.YthahoabkehcgbaaGreatDoor

