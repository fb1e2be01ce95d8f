/-
  A number that is shifted up, limb by limb.
-/
import Derived.Test.YtdhponfpikclhaaMulNum
namespace Go.Proofs.Ytdhponfpikclhaa
open Go.RowKit
set_option linter.unusedVariables false

theorem shl_limb {D E x : Int} (hD : 0 < D) (hE : D * E = 65536) (hx : 0 ≤ x ∧ x ≤ 65535) : 0 ≤ x * D % 65536 ∧ x * D % 65536 ≤ 65536 - D ∧ 0 ≤ x * D / 65536 ∧ x * D / 65536 ≤ D - 1 ∧ x * D ≤ 65535 * D := by
  have hE0 : 0 < E := by
    rcases Int.lt_or_le 0 E with h | h
    · exact h
    · have : D * E ≤ 0 := Int.mul_nonpos_of_nonneg_of_nonpos (by omega) h
      omega
  have e1 : x * D % 65536 = x % E * D := by rw [← hE, Int.mul_comm D E, Int.mul_comm x D, Int.mul_comm E D, Int.mul_emod_mul_of_pos _ _ hD, Int.mul_comm]
  have e2 : x * D / 65536 = x / E := by rw [← hE, Int.mul_comm x D, Int.mul_ediv_mul_of_pos _ _ hD]
  have h1 := Int.emod_nonneg x (show E ≠ 0 by omega)
  have h2 := Int.emod_lt_of_pos x hE0
  have h3 : x % E * D ≤ (E - 1) * D := Int.mul_le_mul_of_nonneg_right (by omega) (by omega)
  have h4 : (E - 1) * D = 65536 - D := by rw [Int.sub_mul, Int.mul_comm E D, hE, Int.one_mul]
  have h5 : x / E < D := Int.ediv_lt_of_lt_mul hE0 (by omega)
  have h6 : 0 ≤ x / E := Int.ediv_nonneg hx.1 (by omega)
  have h7 : 0 ≤ x % E * D := Int.mul_nonneg h1 (by omega)
  have h8 : x * D ≤ 65535 * D := Int.mul_le_mul_of_nonneg_right hx.2 (by omega)
  rw [e1, e2]
  omega

/-- One limb more is put in. -/
theorem shl_put (zs xs : List Int) (q i : Nat) (D x : Int) (hi : i < xs.length) (hl : q + i + 1 < zs.length) (hx : xs.getD i 0 = x) (h1 : zs.getD (q + i + 1) 0 = 0) (h : val zs = 65536 ^ q * (val (xs.take i) * D)) :
    val ((zs.set (q + i) (zs.getD (q + i) 0 + x * D % 65536)).set (q + i + 1) (x * D / 65536)) = 65536 ^ q * (val (xs.take (i + 1)) * D) := by
  have e0 : (zs.set (q + i) (zs.getD (q + i) 0 + x * D % 65536)).getD (q + i + 1) 0 = 0 := by rw [getD_set_ne _ _ _ _ (by omega)]; exact h1
  rw [val_set _ _ _ (by rw [List.length_set]; exact hl), e0, val_set _ _ _ (by omega), h, val_take_succ xs i hi, hx]
  have e1 : zs.getD (q + i) 0 + x * D % 65536 - zs.getD (q + i) 0 = x * D % 65536 := by omega
  have e2 : x * D % 65536 + 65536 * (x * D / 65536 - 0) = x * D := by omega
  rw [e1, Int.pow_succ, Int.add_assoc]
  have key : ∀ P A B : Int, P * A + P * 65536 * B = P * (A + 65536 * B) := fun P A B => by rw [Int.mul_add, Int.mul_assoc]
  rw [key, e2, Int.add_mul, Int.mul_add, Int.pow_add, Int.mul_assoc (65536 ^ i), Int.mul_assoc (65536 ^ q)]
theorem shl_total (xs : List Int) (h : Lim xs) (q s : Nat) : (65536 ^ q * (val xs * ((2 ^ s : Nat) : Int)) : Int) = (((val xs).toNat * 2 ^ (16 * q + s) : Nat) : Int) := by
  obtain ⟨u, eu⟩ : ∃ u : Nat, val xs = u := ⟨(val xs).toNat, by have := val_nonneg h; omega⟩
  rw [eu, Int.toNat_natCast, pow_limb, Nat.pow_add, ← Int.natCast_mul, ← Int.natCast_mul, Nat.mul_left_comm]

end Go.Proofs.Ytdhponfpikclhaa
