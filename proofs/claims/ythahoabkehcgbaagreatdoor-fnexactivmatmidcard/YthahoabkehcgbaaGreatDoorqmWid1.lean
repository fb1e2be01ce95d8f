/-
  IvMatWide of the program.
-/
import Derived.Test.YthahoabkehcgbaaGreatDoorqmNr3
import Derived.Test.YthahoabkehcgbaaGreatDoorqmIvM1D
import Derived.Test.YthahoabkehcgbaaGreatDoorqmFit8
namespace Go.Proofs.YthahoabkehcgbaaGreatDoor
open Go.RowKit
set_option linter.unusedVariables false
set_option maxRecDepth 8000
set_option linter.unusedSimpArgs false

theorem iok_both {s0 s1 : Bool} {z0 z1 : List Int} {y0 y1 : Int} (h : iokB s0 z0 y0 s1 z1 y1 = true) : dokB s0 z0 y0 = true ∧ dokB s1 z1 y1 = true := by
  unfold iokB at h
  simp only [Bool.and_eq_true] at h
  first | exact ⟨h.1.1, h.1.2⟩ | exact ⟨h.1, h.2.1⟩
theorem imok_parts {n : Int} {ds : List DE} {m : Nat} (h : imokB n ds m = true) : 1 ≤ n ∧ n ≤ 4 ∧ (m : Int) = n * n ∧ ∀ q, q < 2 * m → dOkE (ds.getD q de0) = true := by
  unfold imokB at h
  simp only [Bool.and_eq_true, decide_eq_true_eq] at h
  refine ⟨h.1.1, h.1.2, h.2.1, fun q hq => ?_⟩
  have h2 := h.2.2
  unfold ivAll at h2
  rw [List.all_eq_true] at h2
  have h3 := iok_both (show iokB _ _ _ _ _ _ = true from h2 (q / 2) (List.mem_range.2 (by omega)))
  by_cases e : q % 2 = 0
  · have : q = 2 * (q / 2) := by omega
    rw [this]; exact h3.1
  · have : q = 2 * (q / 2) + 1 := by omega
    rw [this]; exact h3.2

end Go.Proofs.YthahoabkehcgbaaGreatDoor

