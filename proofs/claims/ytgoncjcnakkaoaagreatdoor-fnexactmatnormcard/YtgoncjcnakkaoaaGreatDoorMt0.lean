/-
  The model's copy of a number; a number that is one is its own form.
-/
import Derived.Test.YtgoncjcnakkaoaaGreatDoorDy9
import Derived.Test.YtgoncjcnakkaoaaGreatDoorDy7
import Derived.Test.YtgoncjcnakkaoaaGreatDoorMat1
import Derived.Deep.DeepCutAuto
import Derived.Deep.RegionHeld3
namespace Go.Proofs.YtgoncjcnakkaoaaGreatDoor
open Go.RowKit
set_option linter.unusedVariables false
set_option maxRecDepth 8000
set_option linter.unusedSimpArgs false

theorem d_back {s : Bool} {zs : List Int} {x : Int} (h : dokB s zs x = true) : wsg (wval s zs) = s ∧ dlm (wval s zs) = zs ∧ dex (wval s zs) x = x := by
  have h1 := (dok_parts h).1
  obtain ⟨f1, f2⟩ := d_form h (wval s zs) (wval_abs (wok_int h1).2.2.2.1)
  exact ⟨wn_sign (wok_wn h1), f1, f2⟩
theorem ans_back {s : Bool} {zs : List Int} {x : Int} (h : dokB s zs x = true) : ansDS true (wval s zs) x = s ∧ ansDL true (wval s zs) x = zs ∧ ansDE true (wval s zs) x = x ∧ ansDB true (wval s zs) x = true := by
  obtain ⟨h1, h2, h3⟩ := d_back h
  have hB : ansDB true (wval s zs) x = true := by unfold ansDB; rw [h1, h2, h3, h]; rfl
  refine ⟨?_, ?_, ?_, hB⟩
  · unfold ansDS; rw [hB, h1]; rfl
  · unfold ansDL; rw [if_pos hB, h2]
  · unfold ansDE; rw [if_pos hB, h3]

end Go.Proofs.YtgoncjcnakkaoaaGreatDoor
