/-
  Quotients of limbs as plain arithmetic: a multiple added at a place, the guess of a limb, what is left.
-/
import Derived.Test.YtpeaghaojfbbnaaBA
namespace Go.Proofs.Ytpeaghaojfbbnaa
set_option linter.unusedVariables false

theorem times_bound (t y : Int) (h0 : -65535 ≤ t) (h1 : t ≤ 65535) (y0 : 0 ≤ y) (y1 : y ≤ 65535) : -4294836225 ≤ t * y ∧ t * y ≤ 4294836225 := by
  have a := Int.mul_le_mul_of_nonneg_right h1 y0
  have b := Int.mul_le_mul_of_nonneg_right h0 y0
  omega

/-- One limb of a multiple that is added. -/
theorem times_step (zs ys : List Int) (p i : Nat) (hi : p + i < zs.length) (hy : i < ys.length) (z t c S0 : Int) (hz : zs.getD (p + i) 0 = z) (h : val zs + 65536 ^ (p + i) * c = S0 + t * (65536 ^ p * val (ys.take i))) :
    val (zs.set (p + i) ((z + t * ys.getD i 0 + c) % 65536)) + 65536 ^ (p + (i + 1)) * ((z + t * ys.getD i 0 + c) / 65536) = S0 + t * (65536 ^ p * val (ys.take (i + 1))) := by
  rw [val_set _ _ _ hi, hz, val_take_succ ys i hy, Int.mul_add, Int.mul_add, ← Int.add_assoc, ← h, ← Nat.add_assoc, Int.pow_succ]
  generalize ys.getD i 0 = y
  have e : (z + t * y + c) % 65536 - z + 65536 * ((z + t * y + c) / 65536) = c + t * y := by
    generalize t * y = m; omega
  have key : ∀ P A B : Int, P * A + P * 65536 * B = P * (A + 65536 * B) := fun P A B => by rw [Int.mul_add, Int.mul_assoc]
  rw [Int.add_assoc, key, e, Int.mul_add, Int.pow_add, Int.add_assoc]
  congr 2
  rw [Int.mul_comm t (65536 ^ p * (65536 ^ i * y)), Int.mul_assoc, Int.mul_assoc, Int.mul_assoc, Int.mul_comm t y]

theorem times_end (zs ys : List Int) (p : Nat) (hp : p + ys.length < zs.length) (t c S0 : Int) (h : val zs + 65536 ^ (p + ys.length) * c = S0 + t * (65536 ^ p * val ys)) :
    val (zs.set (p + ys.length) (zs.getD (p + ys.length) 0 + c)) = S0 + t * (65536 ^ p * val ys) := by
  rw [val_set _ _ _ hp, ← h]
  congr 2
  omega

/-- The value from a place on, where all below it is given. -/
theorem val_split (zs : List Int) (p : Nat) (hp : p ≤ zs.length) : val zs = val (zs.take p) + 65536 ^ p * val (zs.drop p) := val_take_drop zs p hp

theorem lim_of_getD {zs : List Int} (h : ∀ j, j < zs.length → 0 ≤ zs.getD j 0 ∧ zs.getD j 0 ≤ 65535) : Lim zs := fun z hz => by
  obtain ⟨i, hi, rfl⟩ := List.getElem_of_mem hz
  have := h i hi
  simpa [List.getD, hi] using this

/-- The guess of a limb is not too small. -/
theorem guess_ge (R Y H P y q low : Int) (hP : 0 < P) (hy : 0 < y) (hR : R = H * P + low) (hlow : low < P) (hY : y * P ≤ Y) (hq : 0 ≤ q) (h : q * Y ≤ R) : q ≤ H / y := by
  have h1 : q * (y * P) ≤ q * Y := Int.mul_le_mul_of_nonneg_left hY hq
  have h2 : q * y * P < (H + 1) * P := by
    rw [Int.mul_assoc, Int.add_mul, Int.one_mul]; omega
  have h3 : q * y < H + 1 := Int.lt_of_mul_lt_mul_right h2 (Int.le_of_lt hP)
  exact (Int.le_ediv_iff_mul_le hy).2 (by omega)

/-- The quotient's rest by one limb more. -/
theorem div_unique2 (R Y d S : Int) (hS : S = R - d * Y) (h0 : 0 ≤ S) (h1 : S < Y) : d = R / Y := by
  have hY : 0 < Y := by omega
  have e : R = S + d * Y := by omega
  rw [e, Int.add_mul_ediv_right _ _ (by omega), Int.ediv_eq_zero_of_lt h0 h1, Int.zero_add]
end Go.Proofs.Ytpeaghaojfbbnaa
