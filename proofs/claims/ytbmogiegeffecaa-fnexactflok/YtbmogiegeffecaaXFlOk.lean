/-
  The walk of the law FnExactFlOk: it returns true at every float that is handed over.
-/
import Derived.Test.YtbmogiegeffecaaFl1
namespace Go.Proofs.Ytbmogiegeffecaa
open Go.RowKit

theorem law_FlOk (k : Int) (n : Bool) (m e : Int) (_ : (Lit.int .i64 m).wf = true) (_ : (Lit.int .i64 e).wf = true) (w : World) :
    Calls Try.prog 3 #[flv k n m e] w fun r w' => r = .returned (.bool true) ∧ Below w.heap.size w w' := by
  go_enter Try.func3, Try.ntmps3
  go_wp2_with (first
    | (go_at_call 9; refine (toFl_any k n m e _).mono ?_; rintro r w1 ⟨rfl, rfl⟩)
    | (go_at_call 8; refine (flok_spec k n m e _).mono ?_; rintro r w1 ⟨rfl, rfl⟩)
    | (go_at_call 10; refine (flok_impl k n m e _).mono ?_; rintro r w1 ⟨rfl, rfl⟩))
  go_ret
  refine ⟨rfl, Kept.toBelow (B := 0) ?_⟩
  repeat first | exact Kept.refl 0 0 w | apply Kept.alloc

end Go.Proofs.Ytbmogiegeffecaa
