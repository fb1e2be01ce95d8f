/-
  Contracts that the proofs of this seat share: Dy10m, Dy11m.
-/
import Derived.Test.YtckaecmkidplhaaGreatDoorBS
import Derived.Deep.DeepCutAuto
namespace Go.Proofs.YtckaecmkidplhaaGreatDoor
open Go.RowKit
set_option linter.unusedVariables false
set_option maxRecDepth 8000
set_option linter.unusedSimpArgs false

end Go.Proofs.YtckaecmkidplhaaGreatDoor

namespace Go.Proofs.YtckaecmkidplhaaGreatDoor
open Go.RowKit
set_option linter.unusedVariables false
set_option maxRecDepth 8000
set_option linter.unusedSimpArgs false

end Go.Proofs.YtckaecmkidplhaaGreatDoor

