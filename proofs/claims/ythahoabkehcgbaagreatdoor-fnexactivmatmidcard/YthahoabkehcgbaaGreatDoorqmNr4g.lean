/-
  The model's norm of a matrix.
-/
import Derived.Test.YthahoabkehcgbaaGreatDoorqmNr3
import Derived.Test.YthahoabkehcgbaaGreatDoorqmMtr2
import Derived.Test.YthahoabkehcgbaaGreatDoorqmDy4
import Derived.Deep.DeepCutAuto
import Derived.Deep.RegionHeld3
namespace Go.Proofs.YthahoabkehcgbaaGreatDoor
open Go.RowKit
set_option linter.unusedVariables false
set_option maxRecDepth 8000
set_option linter.unusedSimpArgs false

theorem BoxT.keptW {lo X l h : Nat} {w w' : World} {V : Int} (b : BoxT lo w X V) (k : Kept l h w w') (hX : X < l ∨ h ≤ X) (hl : w.heap.size ≤ l ∨ h ≤ lo ∨ h ≤ l) : BoxT lo w' X V := by
  obtain ⟨a, c, x0, x1, x2, r⟩ := b
  exact ⟨a, c, k.cellOut (a := ⟨X, 0, none⟩) hX x0, k.cellOut (a := ⟨X, 1, none⟩) hX x1, k.cellOut (a := ⟨X, 2, none⟩) hX x2, (r.kept k hl).wider (Nat.le_refl _) k.size⟩
theorem nE_wbT {V : Int} (h : V.natAbs < 2 ^ AA) : WB (nE V (-3000)).1 (nE V (-3000)).2.1 (nE V (-3000)).2.2 := nE_wb (L := -3000) h (by decide) (by decide) (by decide)

end Go.Proofs.YthahoabkehcgbaaGreatDoor

