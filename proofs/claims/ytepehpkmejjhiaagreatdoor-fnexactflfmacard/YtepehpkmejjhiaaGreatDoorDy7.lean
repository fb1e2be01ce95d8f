/-
  Dyadic numbers: the program's makeOdd and toldDyadic.
-/
import Derived.Test.YtepehpkmejjhiaaGreatDoorDy6
import Derived.Test.YtepehpkmejjhiaaGreatDoorDy5a
namespace Go.Proofs.YtepehpkmejjhiaaGreatDoor
open Go.RowKit
set_option linter.unusedVariables false
set_option maxRecDepth 8000
set_option linter.unusedSimpArgs false

theorem Work.set2 {b g : Nat} {w : World} {v : Value} {zs : List Int} (h : Work b w g v zs) (u : Value) : Work b (w.setCell ⟨g, 2, none⟩ u) g v zs :=
  ⟨(side_setAt w g 2 0 u (by decide)).trans h.cell, by rw [frozen_set]; exact h.loose, by rw [size_set]; exact h.row.aside h.apart u, h.apart⟩
theorem dok_told (m x : Int) : dokB (wsg m) (dlm m) (dex m x) = (decide ((dlm m).length ≤ 100) && (decide (-3000 ≤ dex m x) && decide (dex m x ≤ 3000))) := by
  have hw : wokB (wsg m) (dlm m) = decide ((dlm m).length ≤ 100) := by
    unfold wokB
    by_cases hl : (dlm m).length ≤ 100
    · rw [(okB_iff _).2 ⟨hl, limbs_nrm _⟩, decide_eq_true hl]
      by_cases h0 : m = 0
      · subst h0; rfl
      · rw [decide_eq_true (show 0 < ((dlm m).length : Int) by have := (dlm_pos h0).1; omega)]; simp
    · rw [decide_eq_false hl, Bool.and_eq_false_iff]
      exact .inl (Bool.eq_false_iff.2 (fun h => hl ((okB_iff _).1 h).1))
  unfold dokB
  rw [hw]
  by_cases h0 : m = 0
  · subst h0
    rw [dlm_zero]
    simp [dex]
  · rw [if_neg (show ¬ (dlm m).length = 0 by have := (dlm_pos h0).1; omega), decide_eq_true (dlm_pos h0).2, Bool.and_true]
end Go.Proofs.YtepehpkmejjhiaaGreatDoor

