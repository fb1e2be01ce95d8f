/-
  The order of floats by their places is the order of the numbers that they are.
-/
import Derived.Test.YtcijajdhiknaoaaDoorDy6
import Derived.Test.YtcijajdhiknaoaaDoorDy4
namespace Go.Proofs.YtcijajdhiknaoaaDoor
open Go.RowKit
set_option linter.unusedVariables false

theorem dok_told' (m x : Int) (h1 : m.natAbs < 2 ^ 64) (h2 : -2900 ≤ x) (h3 : x ≤ 2900) : dokB (wsg m) (dlm m) (dex m x) = true := by
  have hl : (dlm m).length ≤ 4 := by
    unfold dlm
    refine (limbs_length_le _ _).2 ?_
    have e : (65536 : Int) ^ 4 = 18446744073709551616 := by decide
    have e2 : (2 : Nat) ^ 64 = 18446744073709551616 := by decide
    have := Nat.div_le_self m.natAbs (2 ^ tz m.natAbs)
    omega
  have hw : wokB (wsg m) (dlm m) = true := by
    unfold wokB
    rw [(okB_iff (dlm m)).2 ⟨by omega, limbs_nrm _⟩]
    by_cases h : m = 0
    · subst h; simp [wsg, dlm_zero]
    · have := (dlm_pos h).1
      simp
      right; exact this
  have hx : -3000 ≤ dex m x ∧ dex m x ≤ 3000 := by
    unfold dex
    split
    · omega
    · have := tz_lt (n := m.natAbs) (k := 64) (by omega) h1
      omega
  unfold dokB
  rw [hw, decide_eq_true hx.1, decide_eq_true hx.2]
  by_cases h : m = 0
  · subst h; rw [dlm_zero]; simp [dex]
  · obtain ⟨p1, p2⟩ := dlm_pos h
    rw [if_neg (by omega), decide_eq_true p2]; rfl

/-- The number of a dyadic form, written at a low power of two. -/
theorem d_value (m x : Int) (l : Int) (hl : l ≤ x) (h0 : l ≤ 0) : wval (wsg m) (dlm m) * 2 ^ (dex m x - l).toNat = m * 2 ^ (x - l).toNat := by
  by_cases h : m = 0
  · subst h; simp [wval, dlm_zero, val]
  · have hd : dex m x = x + (tz m.natAbs : Int) := by unfold dex; rw [if_neg h]
    obtain ⟨q, hq⟩ := tz_form (n := m.natAbs) (by omega)
    have hv : val (dlm m) = ((m.natAbs / 2 ^ tz m.natAbs : Nat) : Int) := limbs_val _
    have hdv : m.natAbs / 2 ^ tz m.natAbs = 2 * q + 1 := by
      conv => lhs; rw [hq]
      have : tz (2 ^ tz m.natAbs * (2 * q + 1)) = tz m.natAbs := by rw [← hq]
      rw [this]
      exact Nat.mul_div_cancel_left _ (Nat.pow_pos (by decide))
    have hm : wval (wsg m) (dlm m) * 2 ^ tz m.natAbs = m := by
      unfold wval wsg
      rw [hv, hdv]
      have e : (m.natAbs : Int) = 2 ^ tz m.natAbs * (2 * (q : Int) + 1) := by
        have := congrArg (fun n : Nat => (n : Int)) hq
        simpa using this
      by_cases hn : m < 0
      · rw [decide_eq_true hn, if_pos rfl, Int.neg_mul, Int.mul_comm]
        have : ((2 * q + 1 : Nat) : Int) = 2 * (q : Int) + 1 := by omega
        rw [this]
        omega
      · rw [decide_eq_false hn, if_neg (by decide), Int.mul_comm]
        have : ((2 * q + 1 : Nat) : Int) = 2 * (q : Int) + 1 := by omega
        rw [this]
        omega
    rw [hd, show (x + (tz m.natAbs : Int) - l).toNat = tz m.natAbs + (x - l).toNat by omega, Int.pow_add, ← Int.mul_assoc, hm]

theorem cmpDI_at (m1 x1 m2 x2 : Int) (l : Int) (h1 : l ≤ x1) (h2 : l ≤ x2) : cmpDI m1 x1 m2 x2 = cmpI (m1 * 2 ^ (x1 - l).toNat) (m2 * 2 ^ (x2 - l).toNat) := by
  unfold cmpDI
  rw [← cmpI_scale _ _ (min x1 x2 - l).toNat, ← pow_split m1 (E := min x1 x2) (.inr (by omega)) (by omega), ← pow_split m2 (E := min x1 x2) (.inr (by omega)) (by omega)]

theorem dex_low (m x l : Int) (h : l ≤ x) (h0 : l ≤ 0) : l ≤ dex m x := by
  unfold dex
  split <;> omega

theorem two_pow_pos (k : Nat) : (0 : Int) < 2 ^ k := Int.pow_pos (by decide)

/-- The size of a float: a greater place is a greater number. -/
theorem place_lt (m1 m2 : Int) (e1 e2 : Nat) (a1 : 0 ≤ m1) (b1 : m1 ≤ 9007199254740991) (a2 : 0 ≤ m2) (c2 : 4503599627370496 ≤ m2 ∨ e2 = 0) (c1 : 4503599627370496 ≤ m1 ∨ e1 = 0)  (b2 : m2 ≤ 9007199254740991)
    (h : (e1 : Int) * 4503599627370496 + m1 < (e2 : Int) * 4503599627370496 + m2) : m1 * 2 ^ e1 < m2 * 2 ^ e2 := by
  rcases Nat.lt_trichotomy e1 e2 with q | q | q
  · have hm2 : 4503599627370496 ≤ m2 := by omega
    obtain ⟨d, rfl⟩ : ∃ d, e2 = e1 + 1 + d := ⟨e2 - e1 - 1, by omega⟩
    have p1 := two_pow_pos e1
    have p2 : (1 : Int) ≤ 2 ^ d := by have := two_pow_pos d; omega
    have e : m2 * (2 : Int) ^ (e1 + 1 + d) = (m2 * 2 * 2 ^ d) * 2 ^ e1 := by
      rw [Int.pow_add, Int.pow_add, show (2 : Int) ^ 1 = 2 from rfl]
      generalize (2 : Int) ^ e1 = A
      generalize (2 : Int) ^ d = D
      rw [Int.mul_assoc, Int.mul_assoc, Int.mul_comm A, Int.mul_assoc, Int.mul_assoc]
    rw [e]
    refine Int.mul_lt_mul_of_pos_right ?_ p1
    have : m2 * 2 * 1 ≤ m2 * 2 * 2 ^ d := Int.mul_le_mul_of_nonneg_left p2 (by omega)
    omega
  · subst q
    exact Int.mul_lt_mul_of_pos_right (by omega) (two_pow_pos e1)
  · omega

theorem place_eq (m1 m2 : Int) (e1 e2 : Nat) (a1 : 0 ≤ m1) (b1 : m1 ≤ 9007199254740991) (a2 : 0 ≤ m2) (b2 : m2 ≤ 9007199254740991) (c1 : 4503599627370496 ≤ m1 ∨ e1 = 0) (c2 : 4503599627370496 ≤ m2 ∨ e2 = 0)
    (h : (e1 : Int) * 4503599627370496 + m1 = (e2 : Int) * 4503599627370496 + m2) : m1 = m2 ∧ e1 = e2 := by omega

/-- .. for both signs. -/
theorem place_cmp (n1 n2 : Bool) (m1 m2 : Int) (e1 e2 : Nat) (a1 : 0 ≤ m1) (b1 : m1 ≤ 9007199254740991) (a2 : 0 ≤ m2) (b2 : m2 ≤ 9007199254740991) (c1 : 4503599627370496 ≤ m1 ∨ e1 = 0) (c2 : 4503599627370496 ≤ m2 ∨ e2 = 0) :
    cmpI ((if n1 = true then -m1 else m1) * 2 ^ e1) ((if n2 = true then -m2 else m2) * 2 ^ e2) =
      cmpI (if n1 = true then -((e1 : Int) * 4503599627370496 + m1) else (e1 : Int) * 4503599627370496 + m1) (if n2 = true then -((e2 : Int) * 4503599627370496 + m2) else (e2 : Int) * 4503599627370496 + m2) := by
  have hlt := place_lt m1 m2 e1 e2 a1 b1 a2 c2 c1 b2
  have hgt := place_lt m2 m1 e2 e1 a2 b2 a1 c1 c2 b1
  have heq : (e1 : Int) * 4503599627370496 + m1 = (e2 : Int) * 4503599627370496 + m2 → m1 * 2 ^ e1 = m2 * 2 ^ e2 := fun h => by
    obtain ⟨rfl, rfl⟩ := place_eq m1 m2 e1 e2 a1 b1 a2 b2 c1 c2 h; rfl
  have z1 := place_lt 0 m1 0 e1 (by omega) (by omega) a1 c1 (.inr rfl) b1
  have z2 := place_lt 0 m2 0 e2 (by omega) (by omega) a2 c2 (.inr rfl) b2
  have y1 : 0 ≤ m1 * 2 ^ e1 := Int.mul_nonneg a1 (Int.le_of_lt (two_pow_pos e1))
  have y2 : 0 ≤ m2 * 2 ^ e2 := Int.mul_nonneg a2 (Int.le_of_lt (two_pow_pos e2))
  have w1 : m1 = 0 → m1 * 2 ^ e1 = 0 := fun h => by rw [h]; simp
  have w2 : m2 = 0 → m2 * 2 ^ e2 = 0 := fun h => by rw [h]; simp
  have s1 : (-m1) * (2 : Int) ^ e1 = -(m1 * 2 ^ e1) := Int.neg_mul _ _
  have s2 : (-m2) * (2 : Int) ^ e2 = -(m2 * 2 ^ e2) := Int.neg_mul _ _
  cases n1 <;> cases n2 <;> simp only [Bool.false_eq_true, if_false, if_true, s1, s2]
  all_goals
    generalize m1 * (2 : Int) ^ e1 = V1 at *
    generalize m2 * (2 : Int) ^ e2 = V2 at *
    unfold cmpI
    split <;> split <;> (try split) <;> (try split) <;> omega

end Go.Proofs.YtcijajdhiknaoaaDoor
