/-
  Dyadic numbers: the model's l4cmp and DyCmp.
-/
import Derived.Test.YtckaecmkidplhaaGreatDoorDy3
namespace Go.Proofs.YtckaecmkidplhaaGreatDoor
open Go.RowKit
set_option linter.unusedVariables false
set_option maxRecDepth 8000
set_option linter.unusedSimpArgs false

end Go.Proofs.YtckaecmkidplhaaGreatDoor

