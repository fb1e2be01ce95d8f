/-
  How often two divides a number.
-/
import Derived.Test.YtkifpodnljlhiaaDoorTrail
namespace Go.Proofs.YtkifpodnljlhiaaDoor
open Go.RowKit
set_option linter.unusedVariables false

theorem limbs_len_le {m n : Nat} (h : m ≤ n) : (limbs m).length ≤ (limbs n).length := by
  refine (limbs_length_le m _).2 ?_
  have := (limbs_length_le n (limbs n).length).1 (Nat.le_refl _)
  omega
/-- How often two divides a number. -/
def tz (n : Nat) : Nat := if n = 0 then 0 else Lib.ctzFrom n n
theorem tz_form {n : Nat} (h : n ≠ 0) : ∃ m, n = 2 ^ tz n * (2 * m + 1) := by
  obtain ⟨m, hm, -⟩ := Lib.ctzFrom_spec n n (by omega) Nat.lt_two_pow_self
  unfold tz
  rw [if_neg h]
  exact ⟨m, hm⟩
theorem trail_form {n k m : Nat} (h : n = 2 ^ k * (2 * m + 1)) : IsTrail n k := by
  subst h
  refine .inr ⟨by rw [Nat.mul_div_cancel_left _ (Nat.pow_pos (by decide))]; omega, fun j hj => ?_⟩
  obtain ⟨d, rfl⟩ : ∃ d, k = j + (d + 1) := ⟨k - j - 1, by omega⟩
  rw [Nat.pow_add, Nat.mul_assoc, Nat.mul_div_cancel_left _ (Nat.pow_pos (by decide)), Nat.pow_succ, Nat.mul_comm (2 ^ d) 2, Nat.mul_assoc]
  omega
theorem tz_is (n : Nat) : IsTrail n (tz n) := by
  by_cases h : n = 0
  · subst h; exact .inl ⟨rfl, rfl⟩
  · obtain ⟨m, hm⟩ := tz_form h
    exact trail_form hm
theorem tz_eq {n t : Nat} (h : IsTrail n t) : t = tz n := h.unique (tz_is n)
theorem tz_shift {n : Nat} (h : n ≠ 0) (k : Nat) : tz (n * 2 ^ k) = tz n + k ∧ n * 2 ^ k / 2 ^ (tz n + k) = n / 2 ^ tz n := by
  obtain ⟨m, hm⟩ := tz_form h
  have e : n * 2 ^ k = 2 ^ (tz n + k) * (2 * m + 1) := by
    conv => lhs; rw [hm]
    rw [Nat.pow_add]
    ac_rfl
  refine ⟨(tz_eq (trail_form e)).symm, ?_⟩
  rw [e, Nat.mul_div_cancel_left _ (Nat.pow_pos (by decide))]
  conv => rhs; lhs; rw [hm]
  rw [Nat.mul_div_cancel_left _ (Nat.pow_pos (by decide))]
theorem tz_odd {n : Nat} (h : n % 2 = 1) : tz n = 0 := (tz_eq (trail_form (n := n) (k := 0) (m := n / 2) (by simp; omega))).symm
theorem odd_part {n : Nat} (h : n ≠ 0) : n / 2 ^ tz n % 2 = 1 ∧ 0 < n / 2 ^ tz n := by
  obtain ⟨m, hm⟩ := tz_form h
  have e : n / 2 ^ tz n = 2 * m + 1 := by
    conv => lhs; lhs; rw [hm]
    rw [Nat.mul_div_cancel_left _ (Nat.pow_pos (by decide))]
  omega
theorem tz_lt {n k : Nat} (h : n ≠ 0) (hk : n < 2 ^ k) : tz n < k := by
  obtain ⟨m, hm⟩ := tz_form h
  rcases Nat.lt_or_ge (tz n) k with h1 | h1
  · exact h1
  · have h2 : 2 ^ k ≤ 2 ^ tz n := Nat.pow_le_pow_right (by decide) h1
    have h3 : 2 ^ tz n ≤ 2 ^ tz n * (2 * m + 1) := Nat.le_mul_of_pos_right _ (by omega)
    omega

end Go.Proofs.YtkifpodnljlhiaaDoor
