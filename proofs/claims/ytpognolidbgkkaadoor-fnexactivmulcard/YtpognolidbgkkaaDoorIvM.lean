/-
  The lesser and the greater of two dyadic numbers: how a choice is told, what is known of it.
-/
import Derived.Test.YtpognolidbgkkaaDoorIv1D
import Derived.Test.YtpognolidbgkkaaDoorIvN
import Derived.Test.YtpognolidbgkkaaDoorIvP
namespace Go.Proofs.YtpognolidbgkkaaDoor
open Go.RowKit
set_option linter.unusedVariables false
set_option maxRecDepth 8000

theorem cmpI_tri (a b : Int) : (cmpI a b = -1 ∧ a < b) ∨ (cmpI a b = 0 ∧ a = b) ∨ (cmpI a b = 1 ∧ b < a) := by
  unfold cmpI
  by_cases h : a < b
  · rw [if_pos h]; exact .inl ⟨rfl, h⟩
  · by_cases h' : b < a
    · rw [if_neg h, if_pos h']; exact .inr (.inr ⟨rfl, h'⟩)
    · rw [if_neg h, if_neg h']; exact .inr (.inl ⟨rfl, by omega⟩)
theorem cmpDI_lo (m1 x1 m2 x2 : Int) (l : Int) (h1 : l ≤ x1) (h2 : l ≤ x2) : cmpDI m1 x1 m2 x2 = cmpI (m1 * 2 ^ (x1 - l).toNat) (m2 * 2 ^ (x2 - l).toNat) := by
  unfold cmpDI
  rw [← cmpI_scale _ _ (min x1 x2 - l).toNat, ← pow_split m1 (E := min x1 x2) (.inr (by omega)) (by omega), ← pow_split m2 (E := min x1 x2) (.inr (by omega)) (by omega)]
end Go.Proofs.YtpognolidbgkkaaDoor

