/-
  The laws' helpers for lists of dyadic numbers and for matrices: alike, copied, counted.
-/
import Derived.Test.YtgdgkncielliaaaDoorDys2
namespace Go.Proofs.YtgdgkncielliaaaDoor
open Go.RowKit
set_option linter.unusedVariables false
set_option maxRecDepth 8000
set_option linter.unusedSimpArgs false

end Go.Proofs.YtgdgkncielliaaaDoor
