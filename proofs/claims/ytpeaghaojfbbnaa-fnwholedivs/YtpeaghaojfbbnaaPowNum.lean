/-
  How long powers are.
-/
import Derived.Test.YtpeaghaojfbbnaaBA
import Derived.Test.YtpeaghaojfbbnaaBE
namespace Go.Proofs.Ytpeaghaojfbbnaa
open Go.RowKit
set_option linter.unusedVariables false

theorem limbs_len_two (n j : Nat) : (limbs n).length ≤ j ↔ n < 2 ^ (16 * j) := by
  rw [limbs_length_le, pow_limb]
  omega
theorem bits_low {X B : Nat} (h : bitsN X = B) (h0 : 0 < B) : 2 ^ (B - 1) ≤ X := by
  rcases Nat.lt_or_ge X (2 ^ (B - 1)) with h1 | h1
  · have := (bitsN_le X (B - 1)).2 h1
    omega
  · exact h1
theorem bits_high (X : Nat) : X < 2 ^ bitsN X := (bitsN_le X _).1 (Nat.le_refl _)
theorem pow_big {X k : Nat} (h : 1600 ≤ ((bitsN X : Int) - 1) * (k : Int)) : 100 < (limbs (X ^ k)).length := by
  rcases Nat.lt_or_ge 100 (limbs (X ^ k)).length with h1 | h1
  · exact h1
  · exfalso
    have h2 := (limbs_len_two _ _).1 h1
    obtain ⟨B, hB⟩ : ∃ B, bitsN X = B := ⟨_, rfl⟩
    rw [hB] at h
    rcases Nat.eq_zero_or_pos B with hz | hz
    · subst hz
      have : ((0 : Nat) : Int) - 1 = -1 := by omega
      rw [this] at h
      omega
    · have h3 := bits_low hB hz
      have h4 : (2 ^ (B - 1)) ^ k ≤ X ^ k := Nat.pow_le_pow_left h3 k
      rw [← Nat.pow_mul] at h4
      have h5 : 1600 ≤ (B - 1) * k := by
        have e : (B : Int) - 1 = ((B - 1 : Nat) : Int) := by omega
        rw [e, ← Int.natCast_mul] at h
        omega
      obtain ⟨E, hE⟩ : ∃ E : Nat, E = 16 * 100 := ⟨_, rfl⟩
      rw [← hE] at h2
      have h6 : 2 ^ E ≤ 2 ^ ((B - 1) * k) := Nat.pow_le_pow_right (by decide) (by omega)
      exact Nat.lt_irrefl _ (Nat.lt_of_le_of_lt (Nat.le_trans h6 h4) h2)
theorem pow_small {X k : Nat} (h : ((bitsN X : Int) - 1) * (k : Int) < 1600) (m : Nat) (hm : m ≤ k) : (limbs (X ^ m)).length ≤ 100000 := by
  have h1 := bits_high X
  obtain ⟨B, hB⟩ : ∃ B, bitsN X = B := ⟨_, rfl⟩
  rw [hB] at h h1
  rcases Nat.lt_or_ge B 2 with hs | hs
  · have hX : X ≤ 1 := by
      have := Nat.pow_le_pow_right (n := 2) (by decide) (show B ≤ 1 by omega)
      omega
    have h2 : X ^ m ≤ 1 ^ m := Nat.pow_le_pow_left hX m
    rw [Nat.one_pow] at h2
    have := (limbs_length_le (X ^ m) 1).2 (by omega)
    omega
  · have h2 : X ^ m ≤ (2 ^ B) ^ m := Nat.pow_le_pow_left (by omega) m
    rw [← Nat.pow_mul] at h2
    have e : (B : Int) - 1 = ((B - 1 : Nat) : Int) := by omega
    rw [e, ← Int.natCast_mul] at h
    have h3 : B * m ≤ B * k := Nat.mul_le_mul_left _ hm
    have h4 : B * k ≤ 2 * (B - 1) * k := Nat.mul_le_mul_right _ (by omega)
    rw [Nat.mul_assoc] at h4
    have h5 : B * m < 3200 := by omega
    obtain ⟨E, hE⟩ : ∃ E : Nat, E = 16 * 201 := ⟨_, rfl⟩
    have h6 : 2 ^ (B * m) < 2 ^ E := Nat.pow_lt_pow_right (by decide) (by omega)
    have := (limbs_len_two (X ^ m) 201).2 (by rw [← hE]; exact Nat.lt_of_le_of_lt h2 h6)
    omega
theorem pow_long {X i k : Nat} (hi : i ≤ k) (h0 : 0 < i) (h : 100 < (limbs (X ^ i)).length) : 100 < (limbs (X ^ k)).length := by
  rcases Nat.eq_zero_or_pos X with hX | hX
  · subst hX
    rw [Nat.zero_pow h0, limbs_zero] at h
    simp at h
  · rcases Nat.lt_or_ge 100 (limbs (X ^ k)).length with h1 | h1
    · exact h1
    · have h2 := (limbs_len_two _ _).1 h1
      have h3 := Nat.pow_le_pow_right hX hi
      have := (limbs_len_two (X ^ i) 100).2 (Nat.lt_of_le_of_lt h3 h2)
      omega

end Go.Proofs.Ytpeaghaojfbbnaa
