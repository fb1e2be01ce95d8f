/-
  Contracts of cmp.Compare at ints and of the program's compare.
-/
import Derived.Test.YtbcflmpakojpfaaINat6
import Derived.Test.YtbcflmpakojpfaaNat4
import Derived.Deep.QuietTactic
import Derived.BigQuiet
namespace Go.Proofs.Ytbcflmpakojpfaa
open Go.RowKit
set_option linter.unusedVariables false
set_option maxRecDepth 8000

end Go.Proofs.Ytbcflmpakojpfaa
