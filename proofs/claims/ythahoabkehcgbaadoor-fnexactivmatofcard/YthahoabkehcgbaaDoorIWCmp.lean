/-
  The contract of the program's WholeCmp.
-/
import Derived.Test.YthahoabkehcgbaaDoorBI
import Derived.Deep.DeepCutAuto
namespace Go.Proofs.YthahoabkehcgbaaDoor
open Go.RowKit
set_option linter.unusedVariables false
set_option maxRecDepth 8000
set_option linter.unusedSimpArgs false

end Go.Proofs.YthahoabkehcgbaaDoor
