/-
  The order of floats by their places is the order of the numbers that they are.
-/
import Derived.Test.YtckaecmkidplhaaGreatDoorDy6
import Derived.Test.YtckaecmkidplhaaGreatDoorDy4
namespace Go.Proofs.YtckaecmkidplhaaGreatDoor
open Go.RowKit
set_option linter.unusedVariables false

theorem dok_told' (m x : Int) (h1 : m.natAbs < 2 ^ 64) (h2 : -2900 ≤ x) (h3 : x ≤ 2900) : dokB (wsg m) (dlm m) (dex m x) = true := by
  have hl : (dlm m).length ≤ 4 := by
    unfold dlm
    refine (limbs_length_le _ _).2 ?_
    have e : (65536 : Int) ^ 4 = 18446744073709551616 := by decide
    have e2 : (2 : Nat) ^ 64 = 18446744073709551616 := by decide
    have := Nat.div_le_self m.natAbs (2 ^ tz m.natAbs)
    omega
  have hw : wokB (wsg m) (dlm m) = true := by
    unfold wokB
    rw [(okB_iff (dlm m)).2 ⟨by omega, limbs_nrm _⟩]
    by_cases h : m = 0
    · subst h; simp [wsg, dlm_zero]
    · have := (dlm_pos h).1
      simp
      right; exact this
  have hx : -3000 ≤ dex m x ∧ dex m x ≤ 3000 := by
    unfold dex
    split
    · omega
    · have := tz_lt (n := m.natAbs) (k := 64) (by omega) h1
      omega
  unfold dokB
  rw [hw, decide_eq_true hx.1, decide_eq_true hx.2]
  by_cases h : m = 0
  · subst h; rw [dlm_zero]; simp [dex]
  · obtain ⟨p1, p2⟩ := dlm_pos h
    rw [if_neg (by omega), decide_eq_true p2]; rfl

theorem two_pow_pos (k : Nat) : (0 : Int) < 2 ^ k := Int.pow_pos (by decide)

end Go.Proofs.YtckaecmkidplhaaGreatDoor

