/-
  Dyadic numbers: what is well made; the contracts of the model's DyOk and of the program's.
-/
import Derived.Test.YtepehpkmejjhiaaGreatDoorBE
import Derived.Test.YtepehpkmejjhiaaGreatDoorBH
namespace Go.Proofs.YtepehpkmejjhiaaGreatDoor
open Go.RowKit
set_option linter.unusedVariables false
set_option maxRecDepth 8000
set_option linter.unusedSimpArgs false

/-- Is it a dyadic number as chapter 4 wants it? -/
def dokB (b : Bool) (zs : List Int) (e : Int) : Bool := wokB b zs && (decide (-3000 ≤ e) && decide (e ≤ 3000)) && (if zs.length = 0 then decide (e = 0) else decide (val zs % 2 = 1))
theorem dok_parts {b : Bool} {zs : List Int} {e : Int} (h : dokB b zs e = true) : wokB b zs = true ∧ -3000 ≤ e ∧ e ≤ 3000 ∧ (zs = [] → e = 0) ∧ (zs ≠ [] → val zs % 2 = 1) := by
  unfold dokB at h
  simp only [Bool.and_eq_true, decide_eq_true_eq] at h
  obtain ⟨⟨h1, h2, h3⟩, h4⟩ := h
  refine ⟨h1, h2, h3, fun e0 => ?_, fun e0 => ?_⟩
  · subst e0; simpa using h4
  · rw [if_neg (fun hh => e0 (List.length_eq_zero_iff.1 hh))] at h4; exact of_decide_eq_true h4
end Go.Proofs.YtepehpkmejjhiaaGreatDoor

