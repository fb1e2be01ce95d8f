/-
  Contracts of the model's NatAdd and NatMul.
-/
import Derived.Test.YtkdapefddhbjdaaINat12
import Derived.Test.YtkdapefddhbjdaaBE
import Derived.Test.YtkdapefddhbjdaaBC
namespace Go.Proofs.Ytkdapefddhbjdaa
open Go.RowKit
set_option linter.unusedVariables false
set_option maxRecDepth 8000
set_option linter.unusedSimpArgs false

end Go.Proofs.Ytkdapefddhbjdaa
