/-
  A root that is cut: the program's halves (at low - 1) against the model's number with one bit that tells of others (at low - 3).
-/
import Derived.Test.YtadbdchjhglldaaGreatDoorBS
import Derived.Test.YtadbdchjhglldaaGreatDoorBO
namespace Go.Proofs.YtadbdchjhglldaaGreatDoor
open Go.RowKit
set_option linter.unusedVariables false

/-- The root of a number that is scaled by 2^k first, cut off. -/
def rtN (V : Nat) (k : Int) : Nat := rootN (scN V k)
/-- Is anything lost? -/
def rtL (V : Nat) (k : Int) : Bool := scL V k || decide (rtN V k * rtN V k ≠ scN V k)
def rtQ (V : Nat) (k : Int) : Nat := 2 * rtN V k + (if rtL V k = true then 1 else 0)

/-- two bits more: a quarter of the finer cut is the cut; what is lost is told by the two bits or lost there. -/
theorem sc_four (V : Nat) (k : Int) : scN V (k + 2) / 4 = scN V k ∧ (scL V k = true ↔ scN V (k + 2) % 4 ≠ 0 ∨ scL V (k + 2) = true) := by
  by_cases h0 : 0 ≤ k
  · obtain ⟨K, rfl⟩ : ∃ K : Nat, k = K := ⟨k.toNat, by omega⟩
    have e : ((K : Int) + 2) = ((K + 2 : Nat) : Int) := by omega
    rw [e, scN_up, scN_up, scL_up, scL_up, Nat.pow_add, ← Nat.mul_assoc]
    generalize V * 2 ^ K = T
    simp only [Bool.false_eq_true, or_false, false_iff]
    omega
  by_cases h1 : k = -1
  · subst h1
    have e : ((-1 : Int) + 2) = ((1 : Nat) : Int) := by omega
    have e1 : (-1 : Int) = -((1 : Nat) : Int) := by omega
    rw [e, scN_up, scL_up, e1, scN_down _ _ (by omega), scL_down _ _ (by omega)]
    simp only [Nat.pow_one, Bool.false_eq_true, or_false, decide_eq_true_eq]
    omega
  by_cases h2 : k = -2
  · subst h2
    have e : ((-2 : Int) + 2) = ((0 : Nat) : Int) := by omega
    have e1 : (-2 : Int) = -((2 : Nat) : Int) := by omega
    rw [e, scN_up, scL_up, e1, scN_down _ _ (by omega), scL_down _ _ (by omega)]
    simp only [Nat.pow_zero, Nat.mul_one, Bool.false_eq_true, or_false, decide_eq_true_eq]
    exact ⟨trivial, trivial⟩
  · obtain ⟨J, hJ⟩ : ∃ J : Nat, k = -((J + 2 : Nat) : Int) := ⟨(-k - 2).toNat, by omega⟩
    have hJ0 : 0 < J := by omega
    have e : k + 2 = -(J : Int) := by omega
    rw [e, hJ, scN_down _ _ hJ0, scL_down _ _ hJ0, scN_down _ _ (by omega), scL_down _ _ (by omega)]
    simp only [decide_eq_true_eq]
    have p : 2 ^ (J + 2) = 2 ^ J * 4 := by rw [Nat.pow_add]
    rw [p]
    have hp : 0 < 2 ^ J := Nat.pow_pos (by decide)
    generalize 2 ^ J = P at *
    refine ⟨by rw [Nat.div_div_eq_div_mul], ?_⟩
    rw [Nat.mod_mul]
    have d := Nat.mod_lt V hp
    generalize V / P % 4 = a
    generalize V % P = r at *
    constructor
    · intro h
      by_cases h3 : a = 0
      · right; intro h4; apply h; rw [h3, h4, Nat.mul_zero]
      · left; exact h3
    · intro h h4
      have h5 : P * a = 0 := by omega
      have h6 : r = 0 := by omega
      rcases Nat.mul_eq_zero.1 h5 with h7 | h7
      · omega
      · rcases h with h | h
        · exact h h7
        · exact h h6

theorem root_uniq {r m : Nat} (h1 : r * r ≤ m) (h2 : m < (r + 1) * (r + 1)) : rootN m = r := by
  obtain ⟨a, b⟩ := root_sq m
  generalize rootN m = q at *
  rcases Nat.lt_trichotomy q r with h | h | h
  · have := Nat.mul_le_mul (show q + 1 ≤ r by omega) (show q + 1 ≤ r by omega)
    omega
  · exact h
  · have := Nat.mul_le_mul (show r + 1 ≤ q by omega) (show r + 1 ≤ q by omega)
    omega

/-- half of the root of what is four times as great is the root. -/
theorem root_four (n : Nat) : rootN n / 2 = rootN (n / 4) ∧ (rootN n % 2 = 0 → rootN n * rootN n = 4 * (rootN (n / 4) * rootN (n / 4))) := by
  obtain ⟨a, b⟩ := root_sq n
  have e : rootN (n / 4) = rootN n / 2 := by
    generalize rootN n = q at *
    obtain ⟨h, c, hq, hc⟩ : ∃ h c, q = 2 * h + c ∧ c < 2 := ⟨q / 2, q % 2, by omega, by omega⟩
    have hh : q / 2 = h := by omega
    rw [hh]
    refine root_uniq ?_ ?_
    · have h1 : (2 * h) * (2 * h) ≤ q * q := Nat.mul_le_mul (by omega) (by omega)
      have h2 : (2 * h) * (2 * h) = 4 * (h * h) := by rw [Nat.mul_mul_mul_comm]
      omega
    · have h1 : (q + 1) * (q + 1) ≤ (2 * (h + 1)) * (2 * (h + 1)) := Nat.mul_le_mul (by omega) (by omega)
      have h2 : (2 * (h + 1)) * (2 * (h + 1)) = 4 * ((h + 1) * (h + 1)) := by rw [Nat.mul_mul_mul_comm]
      omega
  refine ⟨e.symm, fun h => ?_⟩
  rw [e]
  generalize rootN n = q at *
  have h3 : q = 2 * (q / 2) := by omega
  generalize q / 2 = p at *
  subst h3
  rw [Nat.mul_mul_mul_comm]

/-- one bit more of the root: half of it is the root, and what is lost is told by that bit or lost there. -/
theorem rt_step (V : Nat) (k : Int) : rtN V (k + 2) / 2 = rtN V k ∧ (rtN V (k + 2) % 2 ≠ 0 ∨ rtL V (k + 2) = true ↔ rtL V k = true) := by
  obtain ⟨s1, s2⟩ := sc_four V k
  unfold rtL rtN
  rw [← s1]
  obtain ⟨r1, r2⟩ := root_four (scN V (k + 2))
  obtain ⟨a, b⟩ := root_sq (scN V (k + 2))
  obtain ⟨a', b'⟩ := root_sq (scN V (k + 2) / 4)
  refine ⟨r1, ?_⟩
  simp only [Bool.or_eq_true, decide_eq_true_eq, ne_eq]
  rw [s2]
  generalize scL V (k + 2) = L at *
  generalize scN V (k + 2) = n at *
  generalize rootN (n / 4) = p at *
  generalize rootN n = q at *
  have hq : q = 2 * p + q % 2 := by omega
  by_cases hc : q % 2 = 0
  · have h := r2 hc
    generalize q * q = Q at *
    generalize p * p = P at *
    cases L <;> simp <;> omega
  · have hq2 : q = 2 * p + 1 := by omega
    have e1 : q * q = 4 * (p * p) + 4 * p + 1 := by
      rw [hq2, Nat.add_mul, Nat.mul_add, Nat.mul_mul_mul_comm]
      omega
    rw [e1] at a
    generalize p * p = P at *
    have : n / 4 ≠ P ∨ n % 4 ≠ 0 := by omega
    simp only [hc, not_false_eq_true, true_or, true_iff]
    rcases this with h | h
    · exact .inr (fun e => h (by omega))
    · exact .inl (.inl h)

theorem rt_cut (V : Nat) (k : Int) : scN (rtQ V (k + 2)) (-2) = rtN V k ∧ scL (rtQ V (k + 2)) (-2) = rtL V k := by
  obtain ⟨h1, h2⟩ := rt_step V k
  have a1 := scN_down (rtQ V (k + 2)) 2 (by omega)
  have a2 := scL_down (rtQ V (k + 2)) 2 (by omega)
  rw [show (-2 : Int) = -((2 : Nat) : Int) by rfl, a1, a2]
  unfold rtQ
  generalize rtN V (k + 2) = q at h1 h2
  cases hL : rtL V (k + 2) <;> rw [hL] at h2
  · simp only [Bool.false_eq_true, ite_false, or_false] at h2 ⊢
    refine ⟨by omega, ?_⟩
    cases hR : rtL V k <;> rw [hR] at h2 <;> simp at h2 ⊢ <;> omega
  · simp only [ite_true, or_true, true_iff] at h2 ⊢
    rw [h2]
    refine ⟨by omega, ?_⟩
    simp; omega

theorem rt_pos (V : Nat) (hV : V ≠ 0) (k : Int) : rtQ V k ≠ 0 := by
  intro h
  unfold rtQ rtL rtN at h
  obtain ⟨a, b⟩ := root_sq (scN V k)
  have h1 : rootN (scN V k) = 0 := by omega
  rw [h1] at a b h
  have h2 : scN V k = 0 := by omega
  rw [h2] at h
  have h3 : scL V k = true := by
    unfold scN at h2
    unfold scL
    split at h2
    · have hp : 0 < 2 ^ k.toNat := Nat.pow_pos (by decide)
      rcases Nat.mul_eq_zero.1 h2 with h | h <;> omega
    · rename_i hk
      rw [if_neg hk, decide_eq_true_eq]
      have d := Nat.div_add_mod V (2 ^ (-k).toNat)
      rw [h2] at d
      omega
  rw [h3] at h
  simp at h

/-- the model's number in its one form: what l4round sees of it is the program's cut. -/
theorem rt_round (V : Nat) (hV : V ≠ 0) (k low : Int) (S : Bool) :
    scN (val (dlm (wval S (limbs (rtQ V (k + 2)))))).toNat (dex (wval S (limbs (rtQ V (k + 2)))) (low - 3) - (low - 1)) = rtN V k ∧ scL (val (dlm (wval S (limbs (rtQ V (k + 2)))))).toNat (dex (wval S (limbs (rtQ V (k + 2)))) (low - 3) - (low - 1)) = rtL V k := by
  obtain ⟨a, b⟩ := quo_seen (rtQ V (k + 2)) (rt_pos V hV _) S low
  obtain ⟨c, d⟩ := rt_cut V k
  exact ⟨a.trans c, b.trans d⟩

theorem rt_zero (k : Int) : rtN 0 k = 0 ∧ rtL 0 k = false := by
  have h := rnd_zero k 0 false
  have e : scN 0 k = 0 := by unfold scN; split <;> simp
  have e2 : scL 0 k = false := by unfold scL; split <;> simp
  have e3 : rootN 0 = 0 := rfl
  unfold rtL rtN
  rw [e, e2, e3]
  exact ⟨rfl, rfl⟩

theorem rootN_le (n : Nat) : rootN n ≤ n := by
  obtain ⟨a, b⟩ := root_sq n
  generalize rootN n = q at *
  rcases Nat.eq_zero_or_pos q with h | h
  · omega
  · have := Nat.mul_le_mul_left q h
    omega

end Go.Proofs.YtadbdchjhglldaaGreatDoor

