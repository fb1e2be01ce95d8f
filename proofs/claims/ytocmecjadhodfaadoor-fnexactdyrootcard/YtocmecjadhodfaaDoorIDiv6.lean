/-
  Contracts of the model's NatDiv.
-/
import Derived.Test.YtocmecjadhodfaaDoorBM
import Derived.Test.YtocmecjadhodfaaDoorBC
import Derived.Deep.DeepCutAuto
namespace Go.Proofs.YtocmecjadhodfaaDoor
open Go.RowKit
set_option linter.unusedVariables false
set_option maxRecDepth 8000
set_option linter.unusedSimpArgs false

/-- Whether two lists are divided, and what is told. -/
def divB (xs ys : List Int) : Bool := okB xs && (okB ys && decide (0 < ys.length))
def divQ (xs ys : List Int) : List Int := if divB xs ys = true then limbs (val xs / val ys).toNat else []
def divR (xs ys : List Int) : List Int := if divB xs ys = true then limbs (val xs % val ys).toNat else []
theorem divQ_no {xs ys : List Int} (h : divB xs ys = false) : divQ xs ys = [] := by unfold divQ; rw [h]; rfl
theorem divR_no {xs ys : List Int} (h : divB xs ys = false) : divR xs ys = [] := by unfold divR; rw [h]; rfl
theorem divQ_yes {xs ys : List Int} (h : divB xs ys = true) : divQ xs ys = limbs (val xs / val ys).toNat := by unfold divQ; rw [h]; rfl
theorem divR_yes {xs ys : List Int} (h : divB xs ys = true) : divR xs ys = limbs (val xs % val ys).toNat := by unfold divR; rw [h]; rfl
theorem div_pos {ys : List Int} (h : okB ys = true) (h0 : 0 < ys.length) : 0 < val ys := by
  have hn := ((okB_iff ys).1 h).2
  have e1 := nrm_pow hn (List.length_pos_iff.1 h0)
  have : (0 : Int) < 65536 ^ (ys.length - 1) := Int.pow_pos (by decide)
  omega
theorem divQ_len (xs ys : List Int) : (divQ xs ys).length ≤ 100 := by
  unfold divQ
  split
  · rename_i h
    unfold divB at h
    simp only [Bool.and_eq_true, decide_eq_true_eq] at h
    obtain ⟨l1, n1⟩ := (okB_iff xs).1 h.1
    have h0 := div_pos h.2.1 h.2.2
    have hx := val_nonneg n1.1
    have e : (val xs / val ys).toNat ≤ (val xs).toNat := by have := Int.ediv_le_self (val ys) hx; omega
    have := limbs_len_mono e
    rw [← nrm_limbs n1] at this
    omega
  · simp
theorem divR_len (xs ys : List Int) : (divR xs ys).length ≤ 100 := by
  unfold divR
  split
  · rename_i h
    unfold divB at h
    simp only [Bool.and_eq_true, decide_eq_true_eq] at h
    obtain ⟨l1, n1⟩ := (okB_iff ys).1 h.2.1
    have h0 := div_pos h.2.1 h.2.2
    have e : (val xs % val ys).toNat ≤ (val ys).toNat := by have := Int.emod_lt_of_pos (val xs) h0; omega
    have := limbs_len_mono e
    rw [← nrm_limbs n1] at this
    omega
  · simp

end Go.Proofs.YtocmecjadhodfaaDoor
