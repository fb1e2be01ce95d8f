/-
  Contracts of cmp.Compare at ints and of the program's compare.
-/
import Derived.Test.YtpdgajfkhjdgaaaDoorINat6
import Derived.Test.YtpdgajfkhjdgaaaDoorNat4
import Derived.Deep.QuietTactic
import Derived.BigQuiet
namespace Go.Proofs.YtpdgajfkhjdgaaaDoor
open Go.RowKit
set_option linter.unusedVariables false
set_option maxRecDepth 8000

end Go.Proofs.YtpdgajfkhjdgaaaDoor
