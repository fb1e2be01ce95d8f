/-
  FlUnpack, the model's; what both answer.
-/
import Derived.Test.YtckaecmkidplhaaGreatDoorFl4
namespace Go.Proofs.YtckaecmkidplhaaGreatDoor
open Go.RowKit
set_option linter.unusedVariables false
set_option linter.unusedSimpArgs false

/-- The float of bits below the sign. -/
def fob (b : Int) (n : Bool) : Int × Bool × Int × Int :=
  if 9218868437227405312 < b then (3, false, 0, 0) else if b = 9218868437227405312 then (2, n, 0, 0) else if b = 0 then (0, n, 0, 0)
  else if b < 4503599627370496 then (1, n, b % 4503599627370496, -1074) else (1, n, 4503599627370496 + b % 4503599627370496, b / 4503599627370496 - 1 - 1074)

end Go.Proofs.YtckaecmkidplhaaGreatDoor

