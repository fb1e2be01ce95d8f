/-
  Floats by their kinds: floatOfBits, told; FlUnpack and FlNext, the program's.
-/
import Derived.Test.YtckaecmkidplhaaGreatDoorFl3
namespace Go.Proofs.YtckaecmkidplhaaGreatDoor
open Go.RowKit
set_option linter.unusedVariables false
set_option linter.unusedSimpArgs false

end Go.Proofs.YtckaecmkidplhaaGreatDoor

