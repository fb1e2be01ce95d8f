/-
  Quotients of dyadic numbers: the model's l4quot.
-/
import Derived.Test.YtocmecjadhodfaaDoorDivQ
import Derived.Test.YtocmecjadhodfaaDoorBM
import Derived.Test.YtocmecjadhodfaaDoorDy6
import Derived.Test.YtocmecjadhodfaaDoorBS
import Derived.Deep.DeepCutAuto
import Derived.Deep.RegionHeld3
namespace Go.Proofs.YtocmecjadhodfaaDoor
open Go.RowKit
set_option linter.unusedVariables false
set_option maxRecDepth 8000
set_option linter.unusedSimpArgs false

theorem quoX_zero (V : Nat) {k : Int} (h : k ≤ 0) : quoX V k = V := by
  unfold quoX
  rw [show k.toNat = 0 by omega, Nat.pow_zero, Nat.mul_one]
theorem len_pos_limbs {n : Nat} (h : n ≠ 0) : 0 < (limbs n).length := by
  rcases Nat.eq_zero_or_pos (limbs n).length with e | e
  · have e2 := List.length_eq_zero_iff.1 e
    have e3 := limbs_val n
    rw [e2] at e3
    simp [val] at e3
    omega
  · exact e
theorem limbs_len_of {n A m : Nat} (h : n < 2 ^ A) (hA : A ≤ 16 * m) : (limbs n).length ≤ m := by
  refine (limbs_length_le _ _).2 ?_
  rw [pow_limb]
  exact_mod_cast Nat.lt_of_lt_of_le h (Nat.pow_le_pow_right (by decide) hA)
theorem quoX_lt {xs : List Int} (hx : Lim xs) (nx : xs.length ≤ 100) (k : Int) (hk : k ≤ 9100) {A : Nat} (hA : A = 10700) : quoX (val xs).toNat k < 2 ^ A := by
  have h0 := val_nonneg hx
  have h1 := val_lt hx
  rw [pow_limb] at h1
  have h2 : (val xs).toNat < 2 ^ (16 * xs.length) := by omega
  have h5 : quoX (val xs).toNat k < 2 ^ (16 * xs.length) * 2 ^ k.toNat := Nat.mul_lt_mul_of_pos_right h2 (Nat.pow_pos (by decide))
  rw [← Nat.pow_add] at h5
  exact Nat.lt_of_lt_of_le h5 (Nat.pow_le_pow_right (by decide) (by omega))

end Go.Proofs.YtocmecjadhodfaaDoor
