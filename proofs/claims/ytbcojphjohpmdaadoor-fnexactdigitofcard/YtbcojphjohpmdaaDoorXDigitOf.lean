/-
  The walk of the law FnExactDigitOf: it returns true at every int, where the table of noughts is as the program's text lays it.
-/
import Derived.Test.YtbcojphjohpmdaaDoorDigit
namespace Go.Proofs.YtbcojphjohpmdaaDoor
open Go.RowKit

set_option maxHeartbeats 400000 in
theorem law_DigitOf (a0 : Int) (_ : (Lit.int .i64 a0).wf = true) (w : World) (ht : Tab w) :
    Calls Tryd.prog 3 #[.int .i64 a0] w fun e w' => e = .returned (.bool true) ∧ Below w.heap.size w w' := by
  go_enter Tryd.func3, Tryd.ntmps3
  go_wp2_with fail
  refine (digit_spec a0 _).mono ?_
  rintro e w1 ⟨rfl, k1⟩
  go_wp2_with fail
  refine (digit_impl a0 _ (ht.kept k1 (by omega))).mono ?_
  rintro e w2 ⟨rfl, rfl⟩
  have bel := k1.toBelow
  clear ht
  generalize dig a0 = d
  go_wp2
  go_ret
  exact ⟨rfl, bel⟩

end Go.Proofs.YtbcojphjohpmdaaDoor
