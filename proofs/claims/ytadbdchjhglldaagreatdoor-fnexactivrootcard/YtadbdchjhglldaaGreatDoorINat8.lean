/-
  Contracts of NatInt, the model's and the program's.
-/
import Derived.Test.YtadbdchjhglldaaGreatDoorBF
import Derived.Test.YtadbdchjhglldaaGreatDoorBC
namespace Go.Proofs.YtadbdchjhglldaaGreatDoor
open Go.RowKit
set_option linter.unusedVariables false
set_option maxRecDepth 8000

end Go.Proofs.YtadbdchjhglldaaGreatDoor

