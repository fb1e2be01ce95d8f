/-
  FlPack, the model's and the program's.
-/
import Derived.Test.YtckaecmkidplhaaGreatDoorBY
import Derived.Test.YtckaecmkidplhaaGreatDoorBE
import Derived.Deep.RegionHeld3
import Derived.Deep.DeepCutAuto
namespace Go.Proofs.YtckaecmkidplhaaGreatDoor
open Go.RowKit
set_option linter.unusedVariables false
set_option linter.unusedSimpArgs false

end Go.Proofs.YtckaecmkidplhaaGreatDoor

