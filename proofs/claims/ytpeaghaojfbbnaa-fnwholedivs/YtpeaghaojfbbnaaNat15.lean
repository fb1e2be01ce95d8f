/-
  The contract of the model's l2div.
-/
import Derived.Test.YtpeaghaojfbbnaaBB
import Derived.Test.YtpeaghaojfbbnaaBE
import Derived.Test.YtpeaghaojfbbnaaBC
import Derived.Test.YtpeaghaojfbbnaaDivNum
namespace Go.Proofs.Ytpeaghaojfbbnaa
open Go.RowKit
set_option linter.unusedVariables false
set_option maxRecDepth 8000
set_option linter.unusedSimpArgs false

end Go.Proofs.Ytpeaghaojfbbnaa
