/-
  The program's isZero and shiftUp.
-/
import Derived.Test.YtmmlembpfmichaaBF
import Derived.Test.YtmmlembpfmichaaBB
namespace Go.Proofs.Ytmmlembpfmichaa
open Go.RowKit
set_option linter.unusedVariables false
set_option maxRecDepth 8000

set_option maxHeartbeats 1000000 in
theorem isZero_impl {b g : Nat} {v : Value} {zs : List Int} (w : World) (h : Num b w g v zs) :
    Calls Try.prog 26 #[.pointer (some ⟨g, 0, none⟩)] w fun e w' => e = .returned (.bool (decide (zs.length = 0))) ∧ w' = w := by
  have hc := h.cell
  obtain ⟨a1, c1, rfl⟩ := h.form
  clear h
  go_enter Try.func26, Try.ntmps26
  go_wp2
  go_ret
  refine ⟨?_, rfl⟩
  cases zs with
  | nil => simp
  | cons z t => simp; omega

end Go.Proofs.Ytmmlembpfmichaa
