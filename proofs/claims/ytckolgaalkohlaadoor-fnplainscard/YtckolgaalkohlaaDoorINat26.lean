/-
  The program's copied, and the squares that a closure makes one by one.
-/
import Derived.Test.YtckolgaalkohlaaDoorBH
import Derived.Test.YtckolgaalkohlaaDoorBC
namespace Go.Proofs.YtckolgaalkohlaaDoor
open Go.RowKit
set_option linter.unusedVariables false
set_option maxRecDepth 8000

/-- What the next square is, behind zs: the number itself at first. -/
def nextSq (xs zs : List Int) : List Int := if zs.length = 0 then xs else limbs (val zs * val zs).toNat

end Go.Proofs.YtckolgaalkohlaaDoor
