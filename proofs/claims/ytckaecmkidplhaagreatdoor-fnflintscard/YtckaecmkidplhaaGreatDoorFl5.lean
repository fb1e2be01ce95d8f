/-
  FlUnpack, the model's; what both answer.
-/
import Derived.Test.YtckaecmkidplhaaGreatDoorFl4
namespace Go.Proofs.YtckaecmkidplhaaGreatDoor
open Go.RowKit
set_option linter.unusedVariables false
set_option linter.unusedSimpArgs false

end Go.Proofs.YtckaecmkidplhaaGreatDoor

