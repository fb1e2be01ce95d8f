/-
  NatText of the model and of the program: the decimal text of a number, and nothing of what is none.
-/
import Derived.Test.YtfikfmkhmojpfaaBT
import Derived.Test.YtfikfmkhmojpfaaBC
namespace Go.Proofs.Ytfikfmkhmojpfaa
open Go.RowKit
set_option linter.unusedVariables false
set_option maxRecDepth 8000

/-- The text of what is a number; nothing of what is none. -/
def ntx (zs : List Int) : List Int := if okB zs then decText (val zs).toNat else []
theorem decText_len {zs : List Int} (h : okB zs = true) : (decText (val zs).toNat).length ≤ 1600 := by
  have hN := (okB_iff zs).1 h
  have h1 := val_lt hN.2.1
  have h2 := val_nonneg hN.2.1
  rw [pow_limb] at h1
  have h3 := tdig_len (16 * zs.length) (val zs).toNat (by omega)
  unfold decText
  split
  · simp
  · rw [List.length_reverse]; omega
theorem ntx_len (zs : List Int) : (ntx zs).length ≤ 1600 := by
  unfold ntx
  cases h : okB zs
  · simp
  · rw [if_pos rfl]; exact decText_len h

end Go.Proofs.Ytfikfmkhmojpfaa
