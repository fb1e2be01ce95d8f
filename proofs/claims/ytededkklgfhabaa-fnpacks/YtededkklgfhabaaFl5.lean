/-
  FlUnpack, the model's; what both answer.
-/
import Derived.Test.YtededkklgfhabaaFl4
namespace Go.Proofs.Ytededkklgfhabaa
open Go.RowKit
set_option linter.unusedVariables false
set_option linter.unusedSimpArgs false

/-- Whether both words are 32 bits. -/
def okU (hi lo : Int) : Bool := decide (0 ≤ hi ∧ hi ≤ 4294967295 ∧ 0 ≤ lo ∧ lo ≤ 4294967295)

/-- The float of bits below the sign. -/
def fob (b : Int) (n : Bool) : Int × Bool × Int × Int :=
  if 9218868437227405312 < b then (3, false, 0, 0) else if b = 9218868437227405312 then (2, n, 0, 0) else if b = 0 then (0, n, 0, 0)
  else if b < 4503599627370496 then (1, n, b % 4503599627370496, -1074) else (1, n, 4503599627370496 + b % 4503599627370496, b / 4503599627370496 - 1 - 1074)

/-- What FlUnpack tells. -/
def fun2 (hi lo : Int) : Int × Bool × Int × Int :=
  if okU hi lo = true then fob (hi % 2147483648 * 4294967296 + lo) (decide (2147483648 ≤ hi)) else (0, false, 0, 0)

theorem flun_impl (hi lo : Int) (w : World) :
    Calls Try.prog 8 #[.int .i64 hi, .int .i64 lo] w fun r w' => r = .returned (.tuple #[flq (fun2 hi lo), .bool (okU hi lo)]) ∧ Kept 0 0 w w' := by
  by_cases h : okU hi lo = true
  · have h' := h
    unfold okU at h'
    simp only [decide_eq_true_eq] at h'
    obtain ⟨h1, h2, h3, h4⟩ := h'
    rw [show fun2 hi lo = fob (hi % 2147483648 * 4294967296 + lo) (decide (2147483648 ≤ hi)) by unfold fun2; rw [if_pos h], h]
    unfold fob
    by_cases q1 : 9218868437227405312 < hi % 2147483648 * 4294967296 + lo
    · rw [if_pos q1]; exact flun_impl_nan hi lo h1 h2 h3 h4 q1 w
    rw [if_neg q1]
    by_cases q2 : hi % 2147483648 * 4294967296 + lo = 9218868437227405312
    · rw [if_pos q2]; exact flun_impl_inf hi lo h1 h2 h3 h4 q2 w
    rw [if_neg q2]
    by_cases q3 : hi % 2147483648 * 4294967296 + lo = 0
    · rw [if_pos q3]; exact flun_impl_nought hi lo h1 h2 h3 h4 q3 w
    rw [if_neg q3]
    by_cases q4 : hi % 2147483648 * 4294967296 + lo < 4503599627370496
    · rw [if_pos q4]; exact flun_impl_small hi lo h1 h2 h3 h4 (by omega) q4 w
    rw [if_neg q4]
    exact flun_impl_full hi lo h1 h2 h3 h4 (by omega) (by omega) w
  · have h' : okU hi lo = false := by simpa using h
    rw [show fun2 hi lo = (0, false, 0, 0) by unfold fun2; rw [if_neg h], h']
    exact flun_impl_bad hi lo (by unfold okU at h; simpa using h) w

end Go.Proofs.Ytededkklgfhabaa
