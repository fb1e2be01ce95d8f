/-
  The contract of the model's NatCmp.
-/
import Derived.Test.YtdlpkppkmfjdiaaINat9
namespace Go.Proofs.Ytdlpkppkmfjdiaa
open Go.RowKit
set_option linter.unusedVariables false
set_option maxRecDepth 8000

end Go.Proofs.Ytdlpkppkmfjdiaa
