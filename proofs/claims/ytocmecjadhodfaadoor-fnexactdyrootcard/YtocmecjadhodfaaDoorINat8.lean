/-
  Contracts of NatInt, the model's and the program's.
-/
import Derived.Test.YtocmecjadhodfaaDoorBF
import Derived.Test.YtocmecjadhodfaaDoorBC
namespace Go.Proofs.YtocmecjadhodfaaDoor
open Go.RowKit
set_option linter.unusedVariables false
set_option maxRecDepth 8000

/-- What NatInt tells: a number, and whether it is one. -/
def fitsI (zs : List Int) : Bool := okB zs && decide (val zs ≤ 4611686018427387903)
def intN (zs : List Int) : Int := if fitsI zs = true then val zs else 0
theorem intN_bad {zs : List Int} (h : fitsI zs = false) : intN zs = 0 := by unfold intN; rw [if_neg (by simp [h])]
theorem intN_ok {zs : List Int} (h : fitsI zs = true) : intN zs = val zs := by unfold intN; rw [if_pos h]
theorem fitsI_bad {zs : List Int} (h : okB zs = false) : fitsI zs = false := by unfold fitsI; rw [h]; rfl
theorem fitsI_bits {zs : List Int} (h : okB zs = true) : fitsI zs = decide (bitsN (val zs).toNat ≤ 62) := by
  have h0 := val_nonneg ((okB_iff zs).1 h).2.1
  unfold fitsI
  rw [h, Bool.true_and]
  congr 1
  rw [bitsN_le]
  have : (2 : Nat) ^ 62 = 4611686018427387904 := by decide
  rw [this]
  exact propext ⟨fun h => by omega, fun h => by omega⟩

theorem nrm_len4 {zs : List Int} (h : Nrm zs) (hv : val zs ≤ 4611686018427387903) : zs.length ≤ 4 := by
  rw [nrm_limbs h, limbs_length_le]
  have : (65536 : Int) ^ 4 = 18446744073709551616 := by decide
  have := val_nonneg h.1
  omega
theorem val_take_le {zs : List Int} (h : Lim zs) (k : Nat) (hk : k ≤ zs.length) : val (zs.take k) ≤ val zs := by
  have e := val_take_drop zs k hk
  have h2 := val_nonneg (h.drop k)
  have h3 : 0 ≤ (65536 : Int) ^ k * val (zs.drop k) := Int.mul_nonneg (Int.le_of_lt (Int.pow_pos (by decide))) h2
  omega

end Go.Proofs.YtocmecjadhodfaaDoor
