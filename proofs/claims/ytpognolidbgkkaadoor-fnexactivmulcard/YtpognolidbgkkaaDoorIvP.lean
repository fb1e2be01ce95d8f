/-
  A choice of two.
-/
import Derived.Test.YtpognolidbgkkaaDoorBC
namespace Go.Proofs.YtpognolidbgkkaaDoor
open Go.RowKit
set_option linter.unusedVariables false

/-- The second one, if c, else the first. -/
def pk {α : Type} (c : Bool) (a b : α) : α := if c = true then b else a
end Go.Proofs.YtpognolidbgkkaaDoor

