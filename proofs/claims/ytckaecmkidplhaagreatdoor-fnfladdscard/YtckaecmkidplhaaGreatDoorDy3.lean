/-
  Dyadic numbers: the model's l4align, l4cmp and DyCmp.
-/
import Derived.Test.YtckaecmkidplhaaGreatDoorDy2
import Derived.Test.YtckaecmkidplhaaGreatDoorBK
namespace Go.Proofs.YtckaecmkidplhaaGreatDoor
open Go.RowKit
set_option linter.unusedVariables false
set_option maxRecDepth 8000
set_option linter.unusedSimpArgs false

theorem wval_nil (b : Bool) : wval b [] = 0 := by cases b <;> rfl
theorem wval_limbs (b : Bool) (n : Nat) : wval b (limbs n) = if b = true then -(n : Int) else (n : Int) := by
  unfold wval; rw [limbs_val]
theorem limbs_shl_len {zs : List Int} (hn : Nrm zs) (hl : zs.length ≤ 100) (k : Nat) (hk : k ≤ 6000) : (limbs ((val zs).toNat * 2 ^ k)).length ≤ 500 := by
  refine (limbs_length_le _ _).2 ?_
  have h1 := val_lt hn.1
  have h2 := val_nonneg hn.1
  rw [pow_limb] at h1
  have h3 : (val zs).toNat < 2 ^ (16 * zs.length) := by omega
  have h4 : (val zs).toNat * 2 ^ k < 2 ^ (16 * zs.length) * 2 ^ k := Nat.mul_lt_mul_of_pos_right h3 (Nat.pow_pos (by decide))
  rw [← Nat.pow_add] at h4
  rw [pow_limb]
  have h5 := Nat.lt_of_lt_of_le h4 (Nat.pow_le_pow_right (n := 2) (by decide) (show 16 * zs.length + k ≤ 16 * 500 by omega))
  omega
end Go.Proofs.YtckaecmkidplhaaGreatDoor

