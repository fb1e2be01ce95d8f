/-
  Dyadic numbers: the program's multiplyDyadic and addDyadic.
-/
import Derived.Test.YtflpkblmcnkghaaDoorDy10m
import Derived.Deep.DeepCutAuto
namespace Go.Proofs.YtflpkblmcnkghaaDoor
open Go.RowKit
set_option linter.unusedVariables false
set_option maxRecDepth 8000
set_option linter.unusedSimpArgs false

end Go.Proofs.YtflpkblmcnkghaaDoor

