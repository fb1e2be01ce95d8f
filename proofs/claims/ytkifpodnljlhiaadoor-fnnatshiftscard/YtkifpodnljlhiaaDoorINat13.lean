/-
  Contracts of the model's NatAdd and NatMul.
-/
import Derived.Test.YtkifpodnljlhiaaDoorBG
import Derived.Test.YtkifpodnljlhiaaDoorBE
import Derived.Test.YtkifpodnljlhiaaDoorBC
namespace Go.Proofs.YtkifpodnljlhiaaDoor
open Go.RowKit
set_option linter.unusedVariables false
set_option maxRecDepth 8000
set_option linter.unusedSimpArgs false

end Go.Proofs.YtkifpodnljlhiaaDoor
