/-
  What MatId tells is small.
-/
import Derived.Test.YtagaofpkfpfilaaDoorMi2
import Derived.Test.YtagaofpkfpfilaaDoorMs5
namespace Go.Proofs.YtagaofpkfpfilaaDoor
open Go.RowKit

theorem id_sz (n : Int) : szT (idL n) ≤ 2000 := by
  cases h : idB n
  · rw [(id_no h).2.1]; decide
  have h2 := h
  unfold idB at h2
  simp only [Bool.and_eq_true, decide_eq_true_eq] at h2
  obtain ⟨k, rfl⟩ := Int.eq_ofNat_of_zero_le (show 0 ≤ n by omega)
  rw [(id_yes h).2.1]
  exact mok_sz (limT_one k (by omega) (by omega))

end Go.Proofs.YtagaofpkfpfilaaDoor
