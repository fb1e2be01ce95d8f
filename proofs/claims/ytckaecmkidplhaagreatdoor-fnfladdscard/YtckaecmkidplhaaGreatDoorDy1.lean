/-
  Dyadic numbers: what is well made; the contracts of the model's DyOk and of the program's.
-/
import Derived.Test.YtckaecmkidplhaaGreatDoorBE
import Derived.Test.YtckaecmkidplhaaGreatDoorBH
namespace Go.Proofs.YtckaecmkidplhaaGreatDoor
open Go.RowKit
set_option linter.unusedVariables false
set_option maxRecDepth 8000
set_option linter.unusedSimpArgs false

end Go.Proofs.YtckaecmkidplhaaGreatDoor

