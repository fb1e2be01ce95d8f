/-
  FlNext, the program's.
-/
import Derived.Test.YtededkklgfhabaaFl5
namespace Go.Proofs.Ytededkklgfhabaa
open Go.RowKit
set_option linter.unusedVariables false
set_option linter.unusedSimpArgs false

theorem sgn_num (n : Bool) (m e : Int) (w : World) : (method 209 59 (.agg #[.bool n, .int .i64 m, .int .i64 e]) "loop.example/g00382/impl.hasSign").run Try.prog w = .ok (64, .agg #[.bool n]) w := by kernel_rfl

theorem sgn_inf (n : Bool) (m e : Int) (w : World) : (method 209 61 (.agg #[.bool n]) "loop.example/g00382/impl.hasSign").run Try.prog w = .ok (64, .agg #[.bool n]) w := by kernel_rfl

theorem sgn_nought (n : Bool) (m e : Int) (w : World) : (method 209 63 (.agg #[.bool n]) "loop.example/g00382/impl.hasSign").run Try.prog w = .ok (64, .agg #[.bool n]) w := by kernel_rfl

end Go.Proofs.Ytededkklgfhabaa
