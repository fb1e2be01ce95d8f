/-
  MatTrace of the model.
-/
import Derived.Test.YthahoabkehcgbaaGreatDoorqmMtr1
import Derived.Test.YthahoabkehcgbaaGreatDoorqmBS
import Derived.Test.YthahoabkehcgbaaGreatDoorqmBC
import Derived.Deep.DeepCutAuto
import Derived.Deep.RegionHeld3
namespace Go.Proofs.YthahoabkehcgbaaGreatDoor
open Go.RowKit
set_option linter.unusedVariables false
set_option maxRecDepth 8000
set_option linter.unusedSimpArgs false

theorem nE_zero (L : Int) : nE 0 L = (false, [], 0) := by unfold nE; rw [dlm_zero]; rfl
/-- The box X holds V in its one form. -/
def BoxT (lo : Nat) (w : World) (X : Nat) (V : Int) : Prop :=
  ∃ a c, w.cell? ⟨X, 0, none⟩ = some (.bool (nE V (-3000)).1) ∧ w.cell? ⟨X, 1, none⟩ = some (.slice a (nE V (-3000)).2.1.length c) ∧ w.cell? ⟨X, 2, none⟩ = some (.int .i64 (nE V (-3000)).2.2) ∧ Row .i64 true lo w.heap.size w (.slice a (nE V (-3000)).2.1.length c) (nE V (-3000)).2.1

end Go.Proofs.YthahoabkehcgbaaGreatDoor

