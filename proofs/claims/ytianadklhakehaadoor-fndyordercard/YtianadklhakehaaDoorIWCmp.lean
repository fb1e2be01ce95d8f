/-
  The contract of the program's WholeCmp.
-/
import Derived.Test.YtianadklhakehaaDoorBI
import Derived.Deep.DeepCutAuto
namespace Go.Proofs.YtianadklhakehaaDoor
open Go.RowKit
set_option linter.unusedVariables false
set_option maxRecDepth 8000
set_option linter.unusedSimpArgs false

end Go.Proofs.YtianadklhakehaaDoor
