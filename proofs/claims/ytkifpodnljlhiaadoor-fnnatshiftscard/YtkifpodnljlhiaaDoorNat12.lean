/-
  The contract of the model's l2shr.
-/
import Derived.Test.YtkifpodnljlhiaaDoorBE
import Derived.Deep.RegionWith
namespace Go.Proofs.YtkifpodnljlhiaaDoor
open Go.RowKit
set_option linter.unusedVariables false
set_option maxRecDepth 8000
set_option linter.unusedSimpArgs false

end Go.Proofs.YtkifpodnljlhiaaDoor
