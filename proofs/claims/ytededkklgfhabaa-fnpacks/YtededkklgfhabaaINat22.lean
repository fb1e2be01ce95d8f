/-
  The program's isZero and shiftUp.
-/
import Derived.Test.YtededkklgfhabaaINat17
import Derived.Test.YtededkklgfhabaaBB
namespace Go.Proofs.Ytededkklgfhabaa
open Go.RowKit
set_option linter.unusedVariables false
set_option maxRecDepth 8000

end Go.Proofs.Ytededkklgfhabaa
