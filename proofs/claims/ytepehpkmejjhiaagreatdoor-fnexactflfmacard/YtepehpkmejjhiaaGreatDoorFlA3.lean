/-
  Sums of floats: what they are.
-/
import Derived.Test.YtepehpkmejjhiaaGreatDoorFlA2
import Derived.Test.YtepehpkmejjhiaaGreatDoorFlRd
import Derived.Deep.RegionHeld3
import Derived.Deep.DeepCutAuto
namespace Go.Proofs.YtepehpkmejjhiaaGreatDoor
open Go.RowKit
set_option linter.unusedVariables false
set_option maxRecDepth 8000
set_option linter.unusedSimpArgs false

theorem dy_value (m x : Int) (l : Int) (hl : l ≤ x) (h0 : l ≤ 0) : wval (wsg m) (dlm m) * 2 ^ (dex m x - l).toNat = m * 2 ^ (x - l).toNat := by
  by_cases h : m = 0
  · subst h; simp [wval, dlm_zero, val]
  · have hd : dex m x = x + (tz m.natAbs : Int) := by unfold dex; rw [if_neg h]
    obtain ⟨q, hq⟩ := tz_form (n := m.natAbs) (by omega)
    have hv : val (dlm m) = ((m.natAbs / 2 ^ tz m.natAbs : Nat) : Int) := limbs_val _
    have hdv : m.natAbs / 2 ^ tz m.natAbs = 2 * q + 1 := by
      conv => lhs; rw [hq]
      have : tz (2 ^ tz m.natAbs * (2 * q + 1)) = tz m.natAbs := by rw [← hq]
      rw [this]
      exact Nat.mul_div_cancel_left _ (Nat.pow_pos (by decide))
    have hm : wval (wsg m) (dlm m) * 2 ^ tz m.natAbs = m := by
      unfold wval wsg
      rw [hv, hdv]
      have e : (m.natAbs : Int) = 2 ^ tz m.natAbs * (2 * (q : Int) + 1) := by
        have := congrArg (fun n : Nat => (n : Int)) hq
        simpa using this
      by_cases hn : m < 0
      · rw [decide_eq_true hn, if_pos rfl, Int.neg_mul, Int.mul_comm]
        have : ((2 * q + 1 : Nat) : Int) = 2 * (q : Int) + 1 := by omega
        rw [this]
        omega
      · rw [decide_eq_false hn, if_neg (by decide), Int.mul_comm]
        have : ((2 * q + 1 : Nat) : Int) = 2 * (q : Int) + 1 := by omega
        rw [this]
        omega
    rw [hd, show (x + (tz m.natAbs : Int) - l).toNat = tz m.natAbs + (x - l).toNat by omega, Int.pow_add, ← Int.mul_assoc, hm]

/-- A sum of floats, rounded; its flags. -/
def addQ (k1 : Int) (n1 : Bool) (m1 e1 k2 : Int) (n2 : Bool) (m2 e2 mode : Int) : (Int × Bool × Int × Int) × Int :=
  if k1 = 3 ∨ k2 = 3 then ((3, false, 0, 0), 0)
  else if k1 = 2 ∧ k2 = 2 ∧ (n1 == n2) = false then ((3, false, 0, 0), 16)
  else if k1 = 2 then ((2, n1, 0, 0), 0)
  else if k2 = 2 then ((2, n2, 0, 0), 0)
  else rndQ mode (fM k1 n1 m1 * 2 ^ (e1 - min e1 e2).toNat + fM k2 n2 m2 * 2 ^ (e2 - min e1 e2).toNat) (min e1 e2) (if k1 = 0 ∧ k2 = 0 ∧ n1 = n2 then n1 else (mode == 3))
theorem wsg_pow (m : Int) (k : Nat) : wsg (m * 2 ^ k) = wsg m := by
  have hp : (0 : Int) < 2 ^ k := Int.pow_pos (by decide)
  unfold wsg
  rw [decide_eq_decide]
  constructor
  · intro h
    rcases Int.lt_or_le m 0 with h' | h'
    · exact h'
    · have := Int.mul_nonneg h' (Int.le_of_lt hp); omega
  · intro h
    exact Int.mul_neg_of_neg_of_pos h hp
theorem val_at (m x l : Int) (hl : l ≤ x) : wval (wsg m) (dlm m) * 2 ^ (dex m x - l).toNat = m * 2 ^ (x - l).toNat := by
  by_cases h : m = 0
  · subst h; simp [wval, dlm_zero, val]
  · have e := dy_value m (x - l) 0 (by omega) (by omega)
    have hd : dex m (x - l) = dex m x - l := by unfold dex; rw [if_neg h, if_neg h]; omega
    rw [hd] at e
    simpa using e
end Go.Proofs.YtepehpkmejjhiaaGreatDoor

