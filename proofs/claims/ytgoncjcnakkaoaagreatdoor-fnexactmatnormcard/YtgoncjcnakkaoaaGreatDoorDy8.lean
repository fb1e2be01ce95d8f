/-
  Dyadic numbers: DyNeg, DyShift, DyOf, the model's and the program's.
-/
import Derived.Test.YtgoncjcnakkaoaaGreatDoorDy7
namespace Go.Proofs.YtgoncjcnakkaoaaGreatDoor
open Go.RowKit
set_option linter.unusedVariables false
set_option maxRecDepth 8000
set_option linter.unusedSimpArgs false

theorem d_ok {s : Bool} {zs : List Int} {x : Int} (h : dokB s zs x = true) (m : Int) (hm : m.natAbs = (val zs).toNat) : ansDB true m x = true ∧ ansDS true m x = wsg m ∧ ansDL true m x = zs ∧ ansDE true m x = x := by
  obtain ⟨e1, e2⟩ := d_form h m hm
  obtain ⟨h1, h2, h3, -, -⟩ := dok_parts h
  obtain ⟨-, -, hl, -⟩ := wok_int h1
  have hb : ansDB true m x = true := by
    unfold ansDB
    rw [dok_told, e1, e2, decide_eq_true hl, decide_eq_true h2, decide_eq_true h3]
    rfl
  obtain ⟨b1, b2, b3⟩ := ansD_yes hb
  exact ⟨hb, b1, by rw [b2, e1], by rw [b3, e2]⟩
theorem neg_abs {s : Bool} {zs : List Int} (h : Lim zs) : (-wval s zs).natAbs = (val zs).toNat := by rw [Int.natAbs_neg, wval_abs h]
theorem wn_neg {s : Bool} {zs : List Int} (h : Nrm zs) (h0 : 0 < zs.length) (t : Bool) : WN t zs := ⟨h, fun _ => h0⟩
theorem wlm_neg {s : Bool} {zs : List Int} (h : Nrm zs) : wlm (-wval s zs) = zs := by unfold wlm; rw [neg_abs h.1]; exact (nrm_limbs h).symm
theorem wval_not (s : Bool) (zs : List Int) : wval (!s) zs = -wval s zs := by unfold wval; cases s <;> simp
/-- May it be shifted so far? -/
def l4eB (k : Int) : Bool := decide (-12000 ≤ k) && decide (k ≤ 12000)

end Go.Proofs.YtgoncjcnakkaoaaGreatDoor
