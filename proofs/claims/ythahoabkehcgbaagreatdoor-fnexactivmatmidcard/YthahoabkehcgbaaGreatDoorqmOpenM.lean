/-
  A matrix that came in, opened: its size, and its numbers as a list that can be read.
-/
import Derived.Test.YthahoabkehcgbaaGreatDoorqmBD
import Derived.Test.YthahoabkehcgbaaGreatDoorqmBM
namespace Go.Proofs.YthahoabkehcgbaaGreatDoor
open Go.ChangeShapes Go.WideShapes Go.ChangeAt Go.RowKit

end Go.Proofs.YthahoabkehcgbaaGreatDoor

