/-
  The program's opposite of a number, each of a square.
-/
import Derived.Test.YthahoabkehcgbaaGreatDoorqmBW
import Derived.Test.YthahoabkehcgbaaGreatDoorqmBI
import Derived.Deep.DeepCutAuto
import Derived.Deep.RegionHeld3
namespace Go.Proofs.YthahoabkehcgbaaGreatDoor
open Go.RowKit
set_option linter.unusedVariables false
set_option maxRecDepth 8000
set_option linter.unusedSimpArgs false

end Go.Proofs.YthahoabkehcgbaaGreatDoor

