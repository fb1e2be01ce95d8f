/-
  The program's size of a number; compareDyadic over two of many numbers.
-/
import Derived.Test.YthahoabkehcgbaaGreatDoorqmPl3
import Derived.Test.YthahoabkehcgbaaGreatDoorqmBI
import Derived.Test.YthahoabkehcgbaaGreatDoorqmBC
import Derived.Deep.RegionHeld3
namespace Go.Proofs.YthahoabkehcgbaaGreatDoor
open Go.RowKit
set_option linter.unusedVariables false
set_option maxRecDepth 8000
set_option linter.unusedSimpArgs false

end Go.Proofs.YthahoabkehcgbaaGreatDoor

