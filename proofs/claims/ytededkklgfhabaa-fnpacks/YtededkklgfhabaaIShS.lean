/-
  The program's shiftUp and shiftDown of a number with more cells behind its list: these stay as they are; what is told of a number whose list may begin behind its block's first cell.
-/
import Derived.Test.YtededkklgfhabaaISide
import Derived.Test.YtededkklgfhabaaINat20
import Derived.Test.YtededkklgfhabaaINat22
import Derived.Test.YtededkklgfhabaaIWh1
namespace Go.Proofs.Ytededkklgfhabaa
open Go.RowKit
set_option linter.unusedVariables false
set_option maxRecDepth 8000
set_option linter.unusedSimpArgs false

end Go.Proofs.Ytededkklgfhabaa
