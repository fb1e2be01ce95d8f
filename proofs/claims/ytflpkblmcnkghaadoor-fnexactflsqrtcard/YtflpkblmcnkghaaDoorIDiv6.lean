/-
  Contracts of the model's NatDiv.
-/
import Derived.Test.YtflpkblmcnkghaaDoorBM
import Derived.Test.YtflpkblmcnkghaaDoorBC
import Derived.Deep.DeepCutAuto
namespace Go.Proofs.YtflpkblmcnkghaaDoor
open Go.RowKit
set_option linter.unusedVariables false
set_option maxRecDepth 8000
set_option linter.unusedSimpArgs false

end Go.Proofs.YtflpkblmcnkghaaDoor

