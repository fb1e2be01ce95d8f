/-
  Dyadic numbers: what is well made; the contracts of the model's DyOk and of the program's.
-/
import Derived.Test.YtpeaghaojfbbnaaBE
import Derived.Test.YtpeaghaojfbbnaaBH
namespace Go.Proofs.Ytpeaghaojfbbnaa
open Go.RowKit
set_option linter.unusedVariables false
set_option maxRecDepth 8000
set_option linter.unusedSimpArgs false

/-- Is it a dyadic number as chapter 4 wants it? -/
def dokB (b : Bool) (zs : List Int) (e : Int) : Bool := wokB b zs && (decide (-3000 ≤ e) && decide (e ≤ 3000)) && (if zs.length = 0 then decide (e = 0) else decide (val zs % 2 = 1))
theorem dokB_no {b : Bool} {zs : List Int} {e : Int} (h : wokB b zs = false) : dokB b zs e = false := by unfold dokB; rw [h]; rfl
theorem dokB_lo {b : Bool} {zs : List Int} {e : Int} (h : e < -3000) : dokB b zs e = false := by unfold dokB; rw [decide_eq_false (show ¬ -3000 ≤ e by omega)]; simp
theorem dokB_hi {b : Bool} {zs : List Int} {e : Int} (h : 3000 < e) : dokB b zs e = false := by unfold dokB; rw [decide_eq_false (show ¬ e ≤ 3000 by omega)]; simp
theorem dokB_nil {b : Bool} {zs : List Int} {e : Int} (h : wokB b zs = true) (h1 : -3000 ≤ e) (h2 : e ≤ 3000) (h0 : zs.length = 0) : dokB b zs e = decide (e = 0) := by
  unfold dokB; rw [h, decide_eq_true h1, decide_eq_true h2, if_pos h0]; rfl
theorem dokB_odd {b : Bool} {zs : List Int} {e : Int} (h : wokB b zs = true) (h1 : -3000 ≤ e) (h2 : e ≤ 3000) (h0 : 0 < zs.length) : dokB b zs e = decide (val zs % 2 = 1) := by
  unfold dokB; rw [h, decide_eq_true h1, decide_eq_true h2, if_neg (by omega)]; rfl
theorem dok_parts {b : Bool} {zs : List Int} {e : Int} (h : dokB b zs e = true) : wokB b zs = true ∧ -3000 ≤ e ∧ e ≤ 3000 ∧ (zs = [] → e = 0) ∧ (zs ≠ [] → val zs % 2 = 1) := by
  unfold dokB at h
  simp only [Bool.and_eq_true, decide_eq_true_eq] at h
  obtain ⟨⟨h1, h2, h3⟩, h4⟩ := h
  refine ⟨h1, h2, h3, fun e0 => ?_, fun e0 => ?_⟩
  · subst e0; simpa using h4
  · rw [if_neg (fun hh => e0 (List.length_eq_zero_iff.1 hh))] at h4; exact of_decide_eq_true h4
theorem val_mod_two : ∀ zs : List Int, val zs % 2 = zs.getD 0 0 % 2
  | [] => rfl
  | z :: zs => by simp only [val, List.getD_cons_zero]; omega

end Go.Proofs.Ytpeaghaojfbbnaa
