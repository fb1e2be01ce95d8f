/-
  Dyadic numbers: the model's DyMul, DyAdd and DySub.
-/
import Derived.Test.YtflpkblmcnkghaaDoorBS
namespace Go.Proofs.YtflpkblmcnkghaaDoor
open Go.RowKit
set_option linter.unusedVariables false
set_option maxRecDepth 8000
set_option linter.unusedSimpArgs false

end Go.Proofs.YtflpkblmcnkghaaDoor

