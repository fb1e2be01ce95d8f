/-
  Intervals of the program: bothEnds over pairs.
-/
import Derived.Test.YtbihbloknmjfjaaDoorIvN
import Derived.Test.YtbihbloknmjfjaaDoorBJ
import Derived.Deep.DeepCutAuto
import Derived.Deep.RegionHeld3
namespace Go.Proofs.YtbihbloknmjfjaaDoor
open Go.RowKit
set_option linter.unusedVariables false
set_option maxRecDepth 8000
set_option linter.unusedSimpArgs false

theorem pair_set {cur w9 : World} {X Y : Nat} {x0 x1 x2 x3 x4 x5 y0 y1 y2 y3 y4 y5 : Value} {p0 q0 p1 q1 p2 q2 p3 q3 p4 q4 p5 q5 : Value} (k : Kept 0 0 cur w9) (cx0 : w9.cell? ⟨X, 0, none⟩ = some p0) (cx1 : w9.cell? ⟨X, 1, none⟩ = some p1) (cx2 : w9.cell? ⟨X, 2, none⟩ = some p2) (cx3 : w9.cell? ⟨X, 3, none⟩ = some p3) (cx4 : w9.cell? ⟨X, 4, none⟩ = some p4) (cx5 : w9.cell? ⟨X, 5, none⟩ = some p5) (cy0 : w9.cell? ⟨Y, 0, none⟩ = some q0) (cy1 : w9.cell? ⟨Y, 1, none⟩ = some q1) (cy2 : w9.cell? ⟨Y, 2, none⟩ = some q2) (cy3 : w9.cell? ⟨Y, 3, none⟩ = some q3) (cy4 : w9.cell? ⟨Y, 4, none⟩ = some q4) (cy5 : w9.cell? ⟨Y, 5, none⟩ = some q5) (hX : cur.heap.size ≤ X) (hY : cur.heap.size ≤ Y) (hne : X ≠ Y) :
    ((((((((((((w9.setCell ⟨X, 0, none⟩ x0).setCell ⟨X, 1, none⟩ x1).setCell ⟨X, 2, none⟩ x2).setCell ⟨X, 3, none⟩ x3).setCell ⟨X, 4, none⟩ x4).setCell ⟨X, 5, none⟩ x5).setCell ⟨Y, 0, none⟩ y0).setCell ⟨Y, 1, none⟩ y1).setCell ⟨Y, 2, none⟩ y2).setCell ⟨Y, 3, none⟩ y3).setCell ⟨Y, 4, none⟩ y4).setCell ⟨Y, 5, none⟩ y5).cell? ⟨X, 0, none⟩ = some x0 ∧ ((((((((((((w9.setCell ⟨X, 0, none⟩ x0).setCell ⟨X, 1, none⟩ x1).setCell ⟨X, 2, none⟩ x2).setCell ⟨X, 3, none⟩ x3).setCell ⟨X, 4, none⟩ x4).setCell ⟨X, 5, none⟩ x5).setCell ⟨Y, 0, none⟩ y0).setCell ⟨Y, 1, none⟩ y1).setCell ⟨Y, 2, none⟩ y2).setCell ⟨Y, 3, none⟩ y3).setCell ⟨Y, 4, none⟩ y4).setCell ⟨Y, 5, none⟩ y5).cell? ⟨X, 1, none⟩ = some x1 ∧ ((((((((((((w9.setCell ⟨X, 0, none⟩ x0).setCell ⟨X, 1, none⟩ x1).setCell ⟨X, 2, none⟩ x2).setCell ⟨X, 3, none⟩ x3).setCell ⟨X, 4, none⟩ x4).setCell ⟨X, 5, none⟩ x5).setCell ⟨Y, 0, none⟩ y0).setCell ⟨Y, 1, none⟩ y1).setCell ⟨Y, 2, none⟩ y2).setCell ⟨Y, 3, none⟩ y3).setCell ⟨Y, 4, none⟩ y4).setCell ⟨Y, 5, none⟩ y5).cell? ⟨X, 2, none⟩ = some x2 ∧ ((((((((((((w9.setCell ⟨X, 0, none⟩ x0).setCell ⟨X, 1, none⟩ x1).setCell ⟨X, 2, none⟩ x2).setCell ⟨X, 3, none⟩ x3).setCell ⟨X, 4, none⟩ x4).setCell ⟨X, 5, none⟩ x5).setCell ⟨Y, 0, none⟩ y0).setCell ⟨Y, 1, none⟩ y1).setCell ⟨Y, 2, none⟩ y2).setCell ⟨Y, 3, none⟩ y3).setCell ⟨Y, 4, none⟩ y4).setCell ⟨Y, 5, none⟩ y5).cell? ⟨X, 3, none⟩ = some x3 ∧ ((((((((((((w9.setCell ⟨X, 0, none⟩ x0).setCell ⟨X, 1, none⟩ x1).setCell ⟨X, 2, none⟩ x2).setCell ⟨X, 3, none⟩ x3).setCell ⟨X, 4, none⟩ x4).setCell ⟨X, 5, none⟩ x5).setCell ⟨Y, 0, none⟩ y0).setCell ⟨Y, 1, none⟩ y1).setCell ⟨Y, 2, none⟩ y2).setCell ⟨Y, 3, none⟩ y3).setCell ⟨Y, 4, none⟩ y4).setCell ⟨Y, 5, none⟩ y5).cell? ⟨X, 4, none⟩ = some x4 ∧ ((((((((((((w9.setCell ⟨X, 0, none⟩ x0).setCell ⟨X, 1, none⟩ x1).setCell ⟨X, 2, none⟩ x2).setCell ⟨X, 3, none⟩ x3).setCell ⟨X, 4, none⟩ x4).setCell ⟨X, 5, none⟩ x5).setCell ⟨Y, 0, none⟩ y0).setCell ⟨Y, 1, none⟩ y1).setCell ⟨Y, 2, none⟩ y2).setCell ⟨Y, 3, none⟩ y3).setCell ⟨Y, 4, none⟩ y4).setCell ⟨Y, 5, none⟩ y5).cell? ⟨X, 5, none⟩ = some x5 ∧ ((((((((((((w9.setCell ⟨X, 0, none⟩ x0).setCell ⟨X, 1, none⟩ x1).setCell ⟨X, 2, none⟩ x2).setCell ⟨X, 3, none⟩ x3).setCell ⟨X, 4, none⟩ x4).setCell ⟨X, 5, none⟩ x5).setCell ⟨Y, 0, none⟩ y0).setCell ⟨Y, 1, none⟩ y1).setCell ⟨Y, 2, none⟩ y2).setCell ⟨Y, 3, none⟩ y3).setCell ⟨Y, 4, none⟩ y4).setCell ⟨Y, 5, none⟩ y5).cell? ⟨Y, 0, none⟩ = some y0 ∧ ((((((((((((w9.setCell ⟨X, 0, none⟩ x0).setCell ⟨X, 1, none⟩ x1).setCell ⟨X, 2, none⟩ x2).setCell ⟨X, 3, none⟩ x3).setCell ⟨X, 4, none⟩ x4).setCell ⟨X, 5, none⟩ x5).setCell ⟨Y, 0, none⟩ y0).setCell ⟨Y, 1, none⟩ y1).setCell ⟨Y, 2, none⟩ y2).setCell ⟨Y, 3, none⟩ y3).setCell ⟨Y, 4, none⟩ y4).setCell ⟨Y, 5, none⟩ y5).cell? ⟨Y, 1, none⟩ = some y1 ∧ ((((((((((((w9.setCell ⟨X, 0, none⟩ x0).setCell ⟨X, 1, none⟩ x1).setCell ⟨X, 2, none⟩ x2).setCell ⟨X, 3, none⟩ x3).setCell ⟨X, 4, none⟩ x4).setCell ⟨X, 5, none⟩ x5).setCell ⟨Y, 0, none⟩ y0).setCell ⟨Y, 1, none⟩ y1).setCell ⟨Y, 2, none⟩ y2).setCell ⟨Y, 3, none⟩ y3).setCell ⟨Y, 4, none⟩ y4).setCell ⟨Y, 5, none⟩ y5).cell? ⟨Y, 2, none⟩ = some y2 ∧ ((((((((((((w9.setCell ⟨X, 0, none⟩ x0).setCell ⟨X, 1, none⟩ x1).setCell ⟨X, 2, none⟩ x2).setCell ⟨X, 3, none⟩ x3).setCell ⟨X, 4, none⟩ x4).setCell ⟨X, 5, none⟩ x5).setCell ⟨Y, 0, none⟩ y0).setCell ⟨Y, 1, none⟩ y1).setCell ⟨Y, 2, none⟩ y2).setCell ⟨Y, 3, none⟩ y3).setCell ⟨Y, 4, none⟩ y4).setCell ⟨Y, 5, none⟩ y5).cell? ⟨Y, 3, none⟩ = some y3 ∧ ((((((((((((w9.setCell ⟨X, 0, none⟩ x0).setCell ⟨X, 1, none⟩ x1).setCell ⟨X, 2, none⟩ x2).setCell ⟨X, 3, none⟩ x3).setCell ⟨X, 4, none⟩ x4).setCell ⟨X, 5, none⟩ x5).setCell ⟨Y, 0, none⟩ y0).setCell ⟨Y, 1, none⟩ y1).setCell ⟨Y, 2, none⟩ y2).setCell ⟨Y, 3, none⟩ y3).setCell ⟨Y, 4, none⟩ y4).setCell ⟨Y, 5, none⟩ y5).cell? ⟨Y, 4, none⟩ = some y4 ∧ ((((((((((((w9.setCell ⟨X, 0, none⟩ x0).setCell ⟨X, 1, none⟩ x1).setCell ⟨X, 2, none⟩ x2).setCell ⟨X, 3, none⟩ x3).setCell ⟨X, 4, none⟩ x4).setCell ⟨X, 5, none⟩ x5).setCell ⟨Y, 0, none⟩ y0).setCell ⟨Y, 1, none⟩ y1).setCell ⟨Y, 2, none⟩ y2).setCell ⟨Y, 3, none⟩ y3).setCell ⟨Y, 4, none⟩ y4).setCell ⟨Y, 5, none⟩ y5).cell? ⟨Y, 5, none⟩ = some y5 ∧ Kept 0 0 cur ((((((((((((w9.setCell ⟨X, 0, none⟩ x0).setCell ⟨X, 1, none⟩ x1).setCell ⟨X, 2, none⟩ x2).setCell ⟨X, 3, none⟩ x3).setCell ⟨X, 4, none⟩ x4).setCell ⟨X, 5, none⟩ x5).setCell ⟨Y, 0, none⟩ y0).setCell ⟨Y, 1, none⟩ y1).setCell ⟨Y, 2, none⟩ y2).setCell ⟨Y, 3, none⟩ y3).setCell ⟨Y, 4, none⟩ y4).setCell ⟨Y, 5, none⟩ y5) :=
  ⟨(cell_aside y5 (r := ⟨Y, 5, none⟩) (Ne.symm hne) (cell_aside y4 (r := ⟨Y, 4, none⟩) (Ne.symm hne) (cell_aside y3 (r := ⟨Y, 3, none⟩) (Ne.symm hne) (cell_aside y2 (r := ⟨Y, 2, none⟩) (Ne.symm hne) (cell_aside y1 (r := ⟨Y, 1, none⟩) (Ne.symm hne) (cell_aside y0 (r := ⟨Y, 0, none⟩) (Ne.symm hne) (cell_else x5 (r := ⟨X, 5, none⟩) (.inr (by dsimp only; omega)) rfl rfl (cell_else x4 (r := ⟨X, 4, none⟩) (.inr (by dsimp only; omega)) rfl rfl (cell_else x3 (r := ⟨X, 3, none⟩) (.inr (by dsimp only; omega)) rfl rfl (cell_else x2 (r := ⟨X, 2, none⟩) (.inr (by dsimp only; omega)) rfl rfl (cell_else x1 (r := ⟨X, 1, none⟩) (.inr (by dsimp only; omega)) rfl rfl (cell_on _ _ _ _ _ cx0)))))))))))), (cell_aside y5 (r := ⟨Y, 5, none⟩) (Ne.symm hne) (cell_aside y4 (r := ⟨Y, 4, none⟩) (Ne.symm hne) (cell_aside y3 (r := ⟨Y, 3, none⟩) (Ne.symm hne) (cell_aside y2 (r := ⟨Y, 2, none⟩) (Ne.symm hne) (cell_aside y1 (r := ⟨Y, 1, none⟩) (Ne.symm hne) (cell_aside y0 (r := ⟨Y, 0, none⟩) (Ne.symm hne) (cell_else x5 (r := ⟨X, 5, none⟩) (.inr (by dsimp only; omega)) rfl rfl (cell_else x4 (r := ⟨X, 4, none⟩) (.inr (by dsimp only; omega)) rfl rfl (cell_else x3 (r := ⟨X, 3, none⟩) (.inr (by dsimp only; omega)) rfl rfl (cell_else x2 (r := ⟨X, 2, none⟩) (.inr (by dsimp only; omega)) rfl rfl (cell_on _ _ _ _ _ (cell_else x0 (r := ⟨X, 0, none⟩) (.inr (by dsimp only; omega)) rfl rfl cx1)))))))))))), (cell_aside y5 (r := ⟨Y, 5, none⟩) (Ne.symm hne) (cell_aside y4 (r := ⟨Y, 4, none⟩) (Ne.symm hne) (cell_aside y3 (r := ⟨Y, 3, none⟩) (Ne.symm hne) (cell_aside y2 (r := ⟨Y, 2, none⟩) (Ne.symm hne) (cell_aside y1 (r := ⟨Y, 1, none⟩) (Ne.symm hne) (cell_aside y0 (r := ⟨Y, 0, none⟩) (Ne.symm hne) (cell_else x5 (r := ⟨X, 5, none⟩) (.inr (by dsimp only; omega)) rfl rfl (cell_else x4 (r := ⟨X, 4, none⟩) (.inr (by dsimp only; omega)) rfl rfl (cell_else x3 (r := ⟨X, 3, none⟩) (.inr (by dsimp only; omega)) rfl rfl (cell_on _ _ _ _ _ (cell_else x1 (r := ⟨X, 1, none⟩) (.inr (by dsimp only; omega)) rfl rfl (cell_else x0 (r := ⟨X, 0, none⟩) (.inr (by dsimp only; omega)) rfl rfl cx2)))))))))))), (cell_aside y5 (r := ⟨Y, 5, none⟩) (Ne.symm hne) (cell_aside y4 (r := ⟨Y, 4, none⟩) (Ne.symm hne) (cell_aside y3 (r := ⟨Y, 3, none⟩) (Ne.symm hne) (cell_aside y2 (r := ⟨Y, 2, none⟩) (Ne.symm hne) (cell_aside y1 (r := ⟨Y, 1, none⟩) (Ne.symm hne) (cell_aside y0 (r := ⟨Y, 0, none⟩) (Ne.symm hne) (cell_else x5 (r := ⟨X, 5, none⟩) (.inr (by dsimp only; omega)) rfl rfl (cell_else x4 (r := ⟨X, 4, none⟩) (.inr (by dsimp only; omega)) rfl rfl (cell_on _ _ _ _ _ (cell_else x2 (r := ⟨X, 2, none⟩) (.inr (by dsimp only; omega)) rfl rfl (cell_else x1 (r := ⟨X, 1, none⟩) (.inr (by dsimp only; omega)) rfl rfl (cell_else x0 (r := ⟨X, 0, none⟩) (.inr (by dsimp only; omega)) rfl rfl cx3)))))))))))), (cell_aside y5 (r := ⟨Y, 5, none⟩) (Ne.symm hne) (cell_aside y4 (r := ⟨Y, 4, none⟩) (Ne.symm hne) (cell_aside y3 (r := ⟨Y, 3, none⟩) (Ne.symm hne) (cell_aside y2 (r := ⟨Y, 2, none⟩) (Ne.symm hne) (cell_aside y1 (r := ⟨Y, 1, none⟩) (Ne.symm hne) (cell_aside y0 (r := ⟨Y, 0, none⟩) (Ne.symm hne) (cell_else x5 (r := ⟨X, 5, none⟩) (.inr (by dsimp only; omega)) rfl rfl (cell_on _ _ _ _ _ (cell_else x3 (r := ⟨X, 3, none⟩) (.inr (by dsimp only; omega)) rfl rfl (cell_else x2 (r := ⟨X, 2, none⟩) (.inr (by dsimp only; omega)) rfl rfl (cell_else x1 (r := ⟨X, 1, none⟩) (.inr (by dsimp only; omega)) rfl rfl (cell_else x0 (r := ⟨X, 0, none⟩) (.inr (by dsimp only; omega)) rfl rfl cx4)))))))))))), (cell_aside y5 (r := ⟨Y, 5, none⟩) (Ne.symm hne) (cell_aside y4 (r := ⟨Y, 4, none⟩) (Ne.symm hne) (cell_aside y3 (r := ⟨Y, 3, none⟩) (Ne.symm hne) (cell_aside y2 (r := ⟨Y, 2, none⟩) (Ne.symm hne) (cell_aside y1 (r := ⟨Y, 1, none⟩) (Ne.symm hne) (cell_aside y0 (r := ⟨Y, 0, none⟩) (Ne.symm hne) (cell_on _ _ _ _ _ (cell_else x4 (r := ⟨X, 4, none⟩) (.inr (by dsimp only; omega)) rfl rfl (cell_else x3 (r := ⟨X, 3, none⟩) (.inr (by dsimp only; omega)) rfl rfl (cell_else x2 (r := ⟨X, 2, none⟩) (.inr (by dsimp only; omega)) rfl rfl (cell_else x1 (r := ⟨X, 1, none⟩) (.inr (by dsimp only; omega)) rfl rfl (cell_else x0 (r := ⟨X, 0, none⟩) (.inr (by dsimp only; omega)) rfl rfl cx5)))))))))))), (cell_else y5 (r := ⟨Y, 5, none⟩) (.inr (by dsimp only; omega)) rfl rfl (cell_else y4 (r := ⟨Y, 4, none⟩) (.inr (by dsimp only; omega)) rfl rfl (cell_else y3 (r := ⟨Y, 3, none⟩) (.inr (by dsimp only; omega)) rfl rfl (cell_else y2 (r := ⟨Y, 2, none⟩) (.inr (by dsimp only; omega)) rfl rfl (cell_else y1 (r := ⟨Y, 1, none⟩) (.inr (by dsimp only; omega)) rfl rfl (cell_on _ _ _ _ _ (cell_aside x5 (r := ⟨X, 5, none⟩) hne (cell_aside x4 (r := ⟨X, 4, none⟩) hne (cell_aside x3 (r := ⟨X, 3, none⟩) hne (cell_aside x2 (r := ⟨X, 2, none⟩) hne (cell_aside x1 (r := ⟨X, 1, none⟩) hne (cell_aside x0 (r := ⟨X, 0, none⟩) hne cy0)))))))))))), (cell_else y5 (r := ⟨Y, 5, none⟩) (.inr (by dsimp only; omega)) rfl rfl (cell_else y4 (r := ⟨Y, 4, none⟩) (.inr (by dsimp only; omega)) rfl rfl (cell_else y3 (r := ⟨Y, 3, none⟩) (.inr (by dsimp only; omega)) rfl rfl (cell_else y2 (r := ⟨Y, 2, none⟩) (.inr (by dsimp only; omega)) rfl rfl (cell_on _ _ _ _ _ (cell_else y0 (r := ⟨Y, 0, none⟩) (.inr (by dsimp only; omega)) rfl rfl (cell_aside x5 (r := ⟨X, 5, none⟩) hne (cell_aside x4 (r := ⟨X, 4, none⟩) hne (cell_aside x3 (r := ⟨X, 3, none⟩) hne (cell_aside x2 (r := ⟨X, 2, none⟩) hne (cell_aside x1 (r := ⟨X, 1, none⟩) hne (cell_aside x0 (r := ⟨X, 0, none⟩) hne cy1)))))))))))), (cell_else y5 (r := ⟨Y, 5, none⟩) (.inr (by dsimp only; omega)) rfl rfl (cell_else y4 (r := ⟨Y, 4, none⟩) (.inr (by dsimp only; omega)) rfl rfl (cell_else y3 (r := ⟨Y, 3, none⟩) (.inr (by dsimp only; omega)) rfl rfl (cell_on _ _ _ _ _ (cell_else y1 (r := ⟨Y, 1, none⟩) (.inr (by dsimp only; omega)) rfl rfl (cell_else y0 (r := ⟨Y, 0, none⟩) (.inr (by dsimp only; omega)) rfl rfl (cell_aside x5 (r := ⟨X, 5, none⟩) hne (cell_aside x4 (r := ⟨X, 4, none⟩) hne (cell_aside x3 (r := ⟨X, 3, none⟩) hne (cell_aside x2 (r := ⟨X, 2, none⟩) hne (cell_aside x1 (r := ⟨X, 1, none⟩) hne (cell_aside x0 (r := ⟨X, 0, none⟩) hne cy2)))))))))))), (cell_else y5 (r := ⟨Y, 5, none⟩) (.inr (by dsimp only; omega)) rfl rfl (cell_else y4 (r := ⟨Y, 4, none⟩) (.inr (by dsimp only; omega)) rfl rfl (cell_on _ _ _ _ _ (cell_else y2 (r := ⟨Y, 2, none⟩) (.inr (by dsimp only; omega)) rfl rfl (cell_else y1 (r := ⟨Y, 1, none⟩) (.inr (by dsimp only; omega)) rfl rfl (cell_else y0 (r := ⟨Y, 0, none⟩) (.inr (by dsimp only; omega)) rfl rfl (cell_aside x5 (r := ⟨X, 5, none⟩) hne (cell_aside x4 (r := ⟨X, 4, none⟩) hne (cell_aside x3 (r := ⟨X, 3, none⟩) hne (cell_aside x2 (r := ⟨X, 2, none⟩) hne (cell_aside x1 (r := ⟨X, 1, none⟩) hne (cell_aside x0 (r := ⟨X, 0, none⟩) hne cy3)))))))))))), (cell_else y5 (r := ⟨Y, 5, none⟩) (.inr (by dsimp only; omega)) rfl rfl (cell_on _ _ _ _ _ (cell_else y3 (r := ⟨Y, 3, none⟩) (.inr (by dsimp only; omega)) rfl rfl (cell_else y2 (r := ⟨Y, 2, none⟩) (.inr (by dsimp only; omega)) rfl rfl (cell_else y1 (r := ⟨Y, 1, none⟩) (.inr (by dsimp only; omega)) rfl rfl (cell_else y0 (r := ⟨Y, 0, none⟩) (.inr (by dsimp only; omega)) rfl rfl (cell_aside x5 (r := ⟨X, 5, none⟩) hne (cell_aside x4 (r := ⟨X, 4, none⟩) hne (cell_aside x3 (r := ⟨X, 3, none⟩) hne (cell_aside x2 (r := ⟨X, 2, none⟩) hne (cell_aside x1 (r := ⟨X, 1, none⟩) hne (cell_aside x0 (r := ⟨X, 0, none⟩) hne cy4)))))))))))), (cell_on _ _ _ _ _ (cell_else y4 (r := ⟨Y, 4, none⟩) (.inr (by dsimp only; omega)) rfl rfl (cell_else y3 (r := ⟨Y, 3, none⟩) (.inr (by dsimp only; omega)) rfl rfl (cell_else y2 (r := ⟨Y, 2, none⟩) (.inr (by dsimp only; omega)) rfl rfl (cell_else y1 (r := ⟨Y, 1, none⟩) (.inr (by dsimp only; omega)) rfl rfl (cell_else y0 (r := ⟨Y, 0, none⟩) (.inr (by dsimp only; omega)) rfl rfl (cell_aside x5 (r := ⟨X, 5, none⟩) hne (cell_aside x4 (r := ⟨X, 4, none⟩) hne (cell_aside x3 (r := ⟨X, 3, none⟩) hne (cell_aside x2 (r := ⟨X, 2, none⟩) hne (cell_aside x1 (r := ⟨X, 1, none⟩) hne (cell_aside x0 (r := ⟨X, 0, none⟩) hne cy5)))))))))))), ((((((((((((k.setNew (p := ⟨X, 0, none⟩) hX x0).setNew (p := ⟨X, 1, none⟩) hX x1).setNew (p := ⟨X, 2, none⟩) hX x2).setNew (p := ⟨X, 3, none⟩) hX x3).setNew (p := ⟨X, 4, none⟩) hX x4).setNew (p := ⟨X, 5, none⟩) hX x5).setNew (p := ⟨Y, 0, none⟩) hY y0).setNew (p := ⟨Y, 1, none⟩) hY y1).setNew (p := ⟨Y, 2, none⟩) hY y2).setNew (p := ⟨Y, 3, none⟩) hY y3).setNew (p := ⟨Y, 4, none⟩) hY y4).setNew (p := ⟨Y, 5, none⟩) hY y5)⟩

set_option maxHeartbeats 2000000 in
theorem bothEnds_P {v1 v2 v3 v4 : Value} (s1 s2 s3 s4 : Bool) (x1 x2 x3 x4 : Int) {g1 o1 g2 o2 : Bool} {p1 p2 : Int} {L1 L2 : List Int} (f : FuncId) (hcf : ∀ (w : World) (args : Array Value), (callFunc f args).run Tryd.prog w = .ok (.enter f args) w) (w : World)
    (h1 : ∀ w1, Kept 0 0 w w1 → Calls Tryd.prog f #[.agg #[.bool s1, v1, .int .i64 x1, .bool s3, v3, .int .i64 x3], .int .i64 3] w1 (fun e w' => ∃ v', e = .returned (.tuple #[.agg #[.bool g1, v', .int .i64 p1], .bool o1]) ∧ Row .i64 true w1.heap.size w'.heap.size w' v' L1 ∧ Kept 0 0 w1 w'))
    (h2 : ∀ w1, Kept 0 0 w w1 → Calls Tryd.prog f #[.agg #[.bool s2, v2, .int .i64 x2, .bool s4, v4, .int .i64 x4], .int .i64 2] w1 (fun e w' => ∃ v', e = .returned (.tuple #[.agg #[.bool g2, v', .int .i64 p2], .bool o2]) ∧ Row .i64 true w1.heap.size w'.heap.size w' v' L2 ∧ Kept 0 0 w1 w')) :
    Calls Tryd.prog 37 #[.agg #[.bool s1, v1, .int .i64 x1, .bool s3, v3, .int .i64 x3], .agg #[.bool s2, v2, .int .i64 x2, .bool s4, v4, .int .i64 x4], .func (.func f) #[] #[]] w fun e w' => IvAns (o1 && o2) g1 p1 L1 g2 p2 L2 w e w' := by
  obtain ⟨O, hO⟩ : ∃ O, (o1 && o2) = O := ⟨_, rfl⟩
  rw [hO]
  have HO := hide hO
  clear hO
  have H1 := hide h1
  have H2 := hide h2
  clear h1 h2
  obtain ⟨Wn, hn0⟩ : ∃ wz, wz = (((w.alloc (.cells #[.bool s1, v1, .int .i64 x1, .bool s3, v3, .int .i64 x3] 72)).alloc (.cells #[.bool s2, v2, .int .i64 x2, .bool s4, v4, .int .i64 x4] 72)).alloc (.cells #[.bool false, .slice none 0 0, .int .i64 0, .bool false, .slice none 0 0, .int .i64 0] 36)) := ⟨_, rfl⟩
  have k0 : Kept 0 0 w Wn := by rw [hn0]; exact ((((Kept.refl 0 0 w).alloc _).alloc _).alloc _)
  have bp0 : Wn.cell? ⟨w.heap.size, 0, none⟩ = some (.bool s1) := by rw [hn0]; exact old_cell _ (old_cell _ (new_cell2 _ _ _ _ _ _ (by simp) rfl))
  have bp1 : Wn.cell? ⟨w.heap.size, 1, none⟩ = some (v1) := by rw [hn0]; exact old_cell _ (old_cell _ (new_cell2 _ _ _ _ _ _ (by simp) rfl))
  have bp2 : Wn.cell? ⟨w.heap.size, 2, none⟩ = some (.int .i64 x1) := by rw [hn0]; exact old_cell _ (old_cell _ (new_cell2 _ _ _ _ _ _ (by simp) rfl))
  have bp3 : Wn.cell? ⟨w.heap.size, 3, none⟩ = some (.bool s3) := by rw [hn0]; exact old_cell _ (old_cell _ (new_cell2 _ _ _ _ _ _ (by simp) rfl))
  have bp4 : Wn.cell? ⟨w.heap.size, 4, none⟩ = some (v3) := by rw [hn0]; exact old_cell _ (old_cell _ (new_cell2 _ _ _ _ _ _ (by simp) rfl))
  have bp5 : Wn.cell? ⟨w.heap.size, 5, none⟩ = some (.int .i64 x3) := by rw [hn0]; exact old_cell _ (old_cell _ (new_cell2 _ _ _ _ _ _ (by simp) rfl))
  have bq0 : Wn.cell? ⟨w.heap.size + 1, 0, none⟩ = some (.bool s2) := by rw [hn0]; exact old_cell _ (new_cell2 _ _ _ _ _ _ (by simp) rfl)
  have bq1 : Wn.cell? ⟨w.heap.size + 1, 1, none⟩ = some (v2) := by rw [hn0]; exact old_cell _ (new_cell2 _ _ _ _ _ _ (by simp) rfl)
  have bq2 : Wn.cell? ⟨w.heap.size + 1, 2, none⟩ = some (.int .i64 x2) := by rw [hn0]; exact old_cell _ (new_cell2 _ _ _ _ _ _ (by simp) rfl)
  have bq3 : Wn.cell? ⟨w.heap.size + 1, 3, none⟩ = some (.bool s4) := by rw [hn0]; exact old_cell _ (new_cell2 _ _ _ _ _ _ (by simp) rfl)
  have bq4 : Wn.cell? ⟨w.heap.size + 1, 4, none⟩ = some (v4) := by rw [hn0]; exact old_cell _ (new_cell2 _ _ _ _ _ _ (by simp) rfl)
  have bq5 : Wn.cell? ⟨w.heap.size + 1, 5, none⟩ = some (.int .i64 x4) := by rw [hn0]; exact old_cell _ (new_cell2 _ _ _ _ _ _ (by simp) rfl)
  have R0 : Wn.cell? ⟨w.heap.size + 2, 0, none⟩ = some (.bool false) := by rw [hn0]; exact new_cell2 _ _ _ _ _ _ (by simp) rfl
  have Rf0 : Wn.frozen? ⟨w.heap.size + 2, 0, none⟩ = false := by rw [hn0]; exact new_loose2 _ _ _ _ _ (by simp)
  have R1 : Wn.cell? ⟨w.heap.size + 2, 1, none⟩ = some (.slice none 0 0) := by rw [hn0]; exact new_cell2 _ _ _ _ _ _ (by simp) rfl
  have Rf1 : Wn.frozen? ⟨w.heap.size + 2, 1, none⟩ = false := by rw [hn0]; exact new_loose2 _ _ _ _ _ (by simp)
  have R2 : Wn.cell? ⟨w.heap.size + 2, 2, none⟩ = some (.int .i64 0) := by rw [hn0]; exact new_cell2 _ _ _ _ _ _ (by simp) rfl
  have Rf2 : Wn.frozen? ⟨w.heap.size + 2, 2, none⟩ = false := by rw [hn0]; exact new_loose2 _ _ _ _ _ (by simp)
  have R3 : Wn.cell? ⟨w.heap.size + 2, 3, none⟩ = some (.bool false) := by rw [hn0]; exact new_cell2 _ _ _ _ _ _ (by simp) rfl
  have Rf3 : Wn.frozen? ⟨w.heap.size + 2, 3, none⟩ = false := by rw [hn0]; exact new_loose2 _ _ _ _ _ (by simp)
  have R4 : Wn.cell? ⟨w.heap.size + 2, 4, none⟩ = some (.slice none 0 0) := by rw [hn0]; exact new_cell2 _ _ _ _ _ _ (by simp) rfl
  have Rf4 : Wn.frozen? ⟨w.heap.size + 2, 4, none⟩ = false := by rw [hn0]; exact new_loose2 _ _ _ _ _ (by simp)
  have R5 : Wn.cell? ⟨w.heap.size + 2, 5, none⟩ = some (.int .i64 0) := by rw [hn0]; exact new_cell2 _ _ _ _ _ _ (by simp) rfl
  have Rf5 : Wn.frozen? ⟨w.heap.size + 2, 5, none⟩ = false := by rw [hn0]; exact new_loose2 _ _ _ _ _ (by simp)
  have s0 : Wn.heap.size = w.heap.size + 3 := by rw [hn0]; exact by simp
  subst hn0
  have K := hide (k0)
  clear k0
  have S0 := hide s0
  clear s0
  go_enter Tryd.func37, Tryd.ntmps37
  go_wp2_with fail
  generalize (((w.alloc (.cells #[.bool s1, v1, .int .i64 x1, .bool s3, v3, .int .i64 x3] 72)).alloc (.cells #[.bool s2, v2, .int .i64 x2, .bool s4, v4, .int .i64 x4] 72)).alloc (.cells #[.bool false, .slice none 0 0, .int .i64 0, .bool false, .slice none 0 0, .int .i64 0] 36)) = W at *
  refine (unhide H1 _ (unhide K)).mono ?_
  rintro e w1 ⟨vL, rfl, rL, k1⟩
  replace Rf0 := k1.loose0 (zbl R0) Rf0
  replace Rf1 := k1.loose0 (zbl R1) Rf1
  replace Rf2 := k1.loose0 (zbl R2) Rf2
  replace Rf3 := k1.loose0 (zbl R3) Rf3
  replace Rf4 := k1.loose0 (zbl R4) Rf4
  replace Rf5 := k1.loose0 (zbl R5) Rf5
  replace bp0 := k1.cell0 bp0
  replace bp1 := k1.cell0 bp1
  replace bp2 := k1.cell0 bp2
  replace bp3 := k1.cell0 bp3
  replace bp4 := k1.cell0 bp4
  replace bp5 := k1.cell0 bp5
  replace bq0 := k1.cell0 bq0
  replace bq1 := k1.cell0 bq1
  replace bq2 := k1.cell0 bq2
  replace bq3 := k1.cell0 bq3
  replace bq4 := k1.cell0 bq4
  replace bq5 := k1.cell0 bq5
  replace R0 := k1.cell0 R0
  replace R1 := k1.cell0 R1
  replace R2 := k1.cell0 R2
  replace R3 := k1.cell0 R3
  replace R4 := k1.cell0 R4
  replace R5 := k1.cell0 R5
  replace K := hide ((unhide K).trans k1)
  have z2 := k1.size
  clear k1
  obtain ⟨aL, dL, hv⟩ := Row.form' rL
  subst hv
  cases o1
  ·have EO : Hid (O = false) := by show _ = _; rw [← unhide HO]; rfl
   have kn := (Kept.refl 0 0 w1).alloc (.cells #[.bool g1, .slice aL L1.length dL, .int .i64 p1] 34)
   have A0 : (w1.alloc (.cells #[.bool g1, .slice aL L1.length dL, .int .i64 p1] 34)).cell? ⟨w1.heap.size, 0, none⟩ = some (.bool g1) := new_cell2 _ _ _ _ _ _ rfl rfl
   have A1 : (w1.alloc (.cells #[.bool g1, .slice aL L1.length dL, .int .i64 p1] 34)).cell? ⟨w1.heap.size, 1, none⟩ = some (.slice aL L1.length dL) := new_cell2 _ _ _ _ _ _ rfl rfl
   have A2 : (w1.alloc (.cells #[.bool g1, .slice aL L1.length dL, .int .i64 p1] 34)).cell? ⟨w1.heap.size, 2, none⟩ = some (.int .i64 p1) := new_cell2 _ _ _ _ _ _ rfl rfl
   have t3 : w1.heap.size + 1 ≤ (w1.alloc (.cells #[.bool g1, .slice aL L1.length dL, .int .i64 p1] 34)).heap.size := by simp
   replace rL := rL.kp kn
   replace Rf0 := kn.loose0 (zbl R0) Rf0
   replace Rf1 := kn.loose0 (zbl R1) Rf1
   replace Rf2 := kn.loose0 (zbl R2) Rf2
   replace Rf3 := kn.loose0 (zbl R3) Rf3
   replace Rf4 := kn.loose0 (zbl R4) Rf4
   replace Rf5 := kn.loose0 (zbl R5) Rf5
   replace bp0 := kn.cell0 bp0
   replace bp1 := kn.cell0 bp1
   replace bp2 := kn.cell0 bp2
   replace bp3 := kn.cell0 bp3
   replace bp4 := kn.cell0 bp4
   replace bp5 := kn.cell0 bp5
   replace bq0 := kn.cell0 bq0
   replace bq1 := kn.cell0 bq1
   replace bq2 := kn.cell0 bq2
   replace bq3 := kn.cell0 bq3
   replace bq4 := kn.cell0 bq4
   replace bq5 := kn.cell0 bq5
   replace R0 := kn.cell0 R0
   replace R1 := kn.cell0 R1
   replace R2 := kn.cell0 R2
   replace R3 := kn.cell0 R3
   replace R4 := kn.cell0 R4
   replace R5 := kn.cell0 R5
   replace K := hide ((unhide K).trans kn)
   have z4 := kn.size
   clear kn
   go_wp2_with fail
   generalize w1.alloc (.cells #[.bool g1, .slice aL L1.length dL, .int .i64 p1] 34) = wm3 at *
   have K7 := hide (((((((unhide K).setNew (p := ⟨w.heap.size + 2, 0, none⟩) (by simp) (.bool false)).setNew (p := ⟨w.heap.size + 2, 1, none⟩) (by simp) (.slice none 0 0)).setNew (p := ⟨w.heap.size + 2, 2, none⟩) (by simp) (.int .i64 0)).setNew (p := ⟨w.heap.size + 2, 3, none⟩) (by simp) (.bool false)).setNew (p := ⟨w.heap.size + 2, 4, none⟩) (by simp) (.slice none 0 0)).setNew (p := ⟨w.heap.size + 2, 5, none⟩) (by simp) (.int .i64 0))
   clear K
   exact bodyPost_ret (v := .tuple #[.agg #[.bool false, .slice none 0 0, .int .i64 0, .bool false, .slice none 0 0, .int .i64 0], .bool false]) (by simp [results, Tryd.results37, go_sem, R0, R1, R2, R3, R4, R5]) rfl (by rw [unhide EO]; exact ivAns_no (unhide K7))
  have kn := (Kept.refl 0 0 w1).alloc (.cells #[.bool g1, .slice aL L1.length dL, .int .i64 p1] 34)
  have A0 : (w1.alloc (.cells #[.bool g1, .slice aL L1.length dL, .int .i64 p1] 34)).cell? ⟨w1.heap.size, 0, none⟩ = some (.bool g1) := new_cell2 _ _ _ _ _ _ rfl rfl
  have A1 : (w1.alloc (.cells #[.bool g1, .slice aL L1.length dL, .int .i64 p1] 34)).cell? ⟨w1.heap.size, 1, none⟩ = some (.slice aL L1.length dL) := new_cell2 _ _ _ _ _ _ rfl rfl
  have A2 : (w1.alloc (.cells #[.bool g1, .slice aL L1.length dL, .int .i64 p1] 34)).cell? ⟨w1.heap.size, 2, none⟩ = some (.int .i64 p1) := new_cell2 _ _ _ _ _ _ rfl rfl
  have t3 : w1.heap.size + 1 ≤ (w1.alloc (.cells #[.bool g1, .slice aL L1.length dL, .int .i64 p1] 34)).heap.size := by simp
  replace rL := rL.kp kn
  replace Rf0 := kn.loose0 (zbl R0) Rf0
  replace Rf1 := kn.loose0 (zbl R1) Rf1
  replace Rf2 := kn.loose0 (zbl R2) Rf2
  replace Rf3 := kn.loose0 (zbl R3) Rf3
  replace Rf4 := kn.loose0 (zbl R4) Rf4
  replace Rf5 := kn.loose0 (zbl R5) Rf5
  replace bp0 := kn.cell0 bp0
  replace bp1 := kn.cell0 bp1
  replace bp2 := kn.cell0 bp2
  replace bp3 := kn.cell0 bp3
  replace bp4 := kn.cell0 bp4
  replace bp5 := kn.cell0 bp5
  replace bq0 := kn.cell0 bq0
  replace bq1 := kn.cell0 bq1
  replace bq2 := kn.cell0 bq2
  replace bq3 := kn.cell0 bq3
  replace bq4 := kn.cell0 bq4
  replace bq5 := kn.cell0 bq5
  replace R0 := kn.cell0 R0
  replace R1 := kn.cell0 R1
  replace R2 := kn.cell0 R2
  replace R3 := kn.cell0 R3
  replace R4 := kn.cell0 R4
  replace R5 := kn.cell0 R5
  replace K := hide ((unhide K).trans kn)
  have z4 := kn.size
  clear kn
  go_wp2_with fail
  generalize w1.alloc (.cells #[.bool g1, .slice aL L1.length dL, .int .i64 p1] 34) = wm3 at *
  refine (unhide H2 _ (unhide K)).mono ?_
  rintro e w5 ⟨vM, rfl, rM, k5⟩
  replace rL := rL.kp k5
  replace Rf0 := k5.loose0 (zbl R0) Rf0
  replace Rf1 := k5.loose0 (zbl R1) Rf1
  replace Rf2 := k5.loose0 (zbl R2) Rf2
  replace Rf3 := k5.loose0 (zbl R3) Rf3
  replace Rf4 := k5.loose0 (zbl R4) Rf4
  replace Rf5 := k5.loose0 (zbl R5) Rf5
  replace bp0 := k5.cell0 bp0
  replace bp1 := k5.cell0 bp1
  replace bp2 := k5.cell0 bp2
  replace bp3 := k5.cell0 bp3
  replace bp4 := k5.cell0 bp4
  replace bp5 := k5.cell0 bp5
  replace bq0 := k5.cell0 bq0
  replace bq1 := k5.cell0 bq1
  replace bq2 := k5.cell0 bq2
  replace bq3 := k5.cell0 bq3
  replace bq4 := k5.cell0 bq4
  replace bq5 := k5.cell0 bq5
  replace R0 := k5.cell0 R0
  replace R1 := k5.cell0 R1
  replace R2 := k5.cell0 R2
  replace R3 := k5.cell0 R3
  replace R4 := k5.cell0 R4
  replace R5 := k5.cell0 R5
  replace A0 := k5.cell0 A0
  replace A1 := k5.cell0 A1
  replace A2 := k5.cell0 A2
  replace K := hide ((unhide K).trans k5)
  have z6 := k5.size
  clear k5
  obtain ⟨aM, dM, hv⟩ := Row.form' rM
  subst hv
  cases o2
  ·have EO : Hid (O = false) := by show _ = _; rw [← unhide HO]; rfl
   have kn := (Kept.refl 0 0 w5).alloc (.cells #[.bool g2, .slice aM L2.length dM, .int .i64 p2] 34)
   have B0 : (w5.alloc (.cells #[.bool g2, .slice aM L2.length dM, .int .i64 p2] 34)).cell? ⟨w5.heap.size, 0, none⟩ = some (.bool g2) := new_cell2 _ _ _ _ _ _ rfl rfl
   have B1 : (w5.alloc (.cells #[.bool g2, .slice aM L2.length dM, .int .i64 p2] 34)).cell? ⟨w5.heap.size, 1, none⟩ = some (.slice aM L2.length dM) := new_cell2 _ _ _ _ _ _ rfl rfl
   have B2 : (w5.alloc (.cells #[.bool g2, .slice aM L2.length dM, .int .i64 p2] 34)).cell? ⟨w5.heap.size, 2, none⟩ = some (.int .i64 p2) := new_cell2 _ _ _ _ _ _ rfl rfl
   have t7 : w5.heap.size + 1 ≤ (w5.alloc (.cells #[.bool g2, .slice aM L2.length dM, .int .i64 p2] 34)).heap.size := by simp
   replace rL := rL.kp kn
   replace rM := rM.kp kn
   replace Rf0 := kn.loose0 (zbl R0) Rf0
   replace Rf1 := kn.loose0 (zbl R1) Rf1
   replace Rf2 := kn.loose0 (zbl R2) Rf2
   replace Rf3 := kn.loose0 (zbl R3) Rf3
   replace Rf4 := kn.loose0 (zbl R4) Rf4
   replace Rf5 := kn.loose0 (zbl R5) Rf5
   replace bp0 := kn.cell0 bp0
   replace bp1 := kn.cell0 bp1
   replace bp2 := kn.cell0 bp2
   replace bp3 := kn.cell0 bp3
   replace bp4 := kn.cell0 bp4
   replace bp5 := kn.cell0 bp5
   replace bq0 := kn.cell0 bq0
   replace bq1 := kn.cell0 bq1
   replace bq2 := kn.cell0 bq2
   replace bq3 := kn.cell0 bq3
   replace bq4 := kn.cell0 bq4
   replace bq5 := kn.cell0 bq5
   replace R0 := kn.cell0 R0
   replace R1 := kn.cell0 R1
   replace R2 := kn.cell0 R2
   replace R3 := kn.cell0 R3
   replace R4 := kn.cell0 R4
   replace R5 := kn.cell0 R5
   replace A0 := kn.cell0 A0
   replace A1 := kn.cell0 A1
   replace A2 := kn.cell0 A2
   replace K := hide ((unhide K).trans kn)
   have z8 := kn.size
   clear kn
   go_wp2_with fail
   generalize w5.alloc (.cells #[.bool g2, .slice aM L2.length dM, .int .i64 p2] 34) = wm7 at *
   have K7 := hide (((((((unhide K).setNew (p := ⟨w.heap.size + 2, 0, none⟩) (by simp) (.bool false)).setNew (p := ⟨w.heap.size + 2, 1, none⟩) (by simp) (.slice none 0 0)).setNew (p := ⟨w.heap.size + 2, 2, none⟩) (by simp) (.int .i64 0)).setNew (p := ⟨w.heap.size + 2, 3, none⟩) (by simp) (.bool false)).setNew (p := ⟨w.heap.size + 2, 4, none⟩) (by simp) (.slice none 0 0)).setNew (p := ⟨w.heap.size + 2, 5, none⟩) (by simp) (.int .i64 0))
   clear K
   exact bodyPost_ret (v := .tuple #[.agg #[.bool false, .slice none 0 0, .int .i64 0, .bool false, .slice none 0 0, .int .i64 0], .bool false]) (by simp [results, Tryd.results37, go_sem, R0, R1, R2, R3, R4, R5]) rfl (by rw [unhide EO]; exact ivAns_no (unhide K7))
  have EO : Hid (O = true) := by show _ = _; rw [← unhide HO]; rfl
  have kn := (Kept.refl 0 0 w5).alloc (.cells #[.bool g2, .slice aM L2.length dM, .int .i64 p2] 34)
  have B0 : (w5.alloc (.cells #[.bool g2, .slice aM L2.length dM, .int .i64 p2] 34)).cell? ⟨w5.heap.size, 0, none⟩ = some (.bool g2) := new_cell2 _ _ _ _ _ _ rfl rfl
  have B1 : (w5.alloc (.cells #[.bool g2, .slice aM L2.length dM, .int .i64 p2] 34)).cell? ⟨w5.heap.size, 1, none⟩ = some (.slice aM L2.length dM) := new_cell2 _ _ _ _ _ _ rfl rfl
  have B2 : (w5.alloc (.cells #[.bool g2, .slice aM L2.length dM, .int .i64 p2] 34)).cell? ⟨w5.heap.size, 2, none⟩ = some (.int .i64 p2) := new_cell2 _ _ _ _ _ _ rfl rfl
  have t7 : w5.heap.size + 1 ≤ (w5.alloc (.cells #[.bool g2, .slice aM L2.length dM, .int .i64 p2] 34)).heap.size := by simp
  replace rL := rL.kp kn
  replace rM := rM.kp kn
  replace Rf0 := kn.loose0 (zbl R0) Rf0
  replace Rf1 := kn.loose0 (zbl R1) Rf1
  replace Rf2 := kn.loose0 (zbl R2) Rf2
  replace Rf3 := kn.loose0 (zbl R3) Rf3
  replace Rf4 := kn.loose0 (zbl R4) Rf4
  replace Rf5 := kn.loose0 (zbl R5) Rf5
  replace bp0 := kn.cell0 bp0
  replace bp1 := kn.cell0 bp1
  replace bp2 := kn.cell0 bp2
  replace bp3 := kn.cell0 bp3
  replace bp4 := kn.cell0 bp4
  replace bp5 := kn.cell0 bp5
  replace bq0 := kn.cell0 bq0
  replace bq1 := kn.cell0 bq1
  replace bq2 := kn.cell0 bq2
  replace bq3 := kn.cell0 bq3
  replace bq4 := kn.cell0 bq4
  replace bq5 := kn.cell0 bq5
  replace R0 := kn.cell0 R0
  replace R1 := kn.cell0 R1
  replace R2 := kn.cell0 R2
  replace R3 := kn.cell0 R3
  replace R4 := kn.cell0 R4
  replace R5 := kn.cell0 R5
  replace A0 := kn.cell0 A0
  replace A1 := kn.cell0 A1
  replace A2 := kn.cell0 A2
  replace K := hide ((unhide K).trans kn)
  have z8 := kn.size
  clear kn
  go_wp2_with fail
  generalize w5.alloc (.cells #[.bool g2, .slice aM L2.length dM, .int .i64 p2] 34) = wm7 at *
  have K7 := hide (((((((unhide K).setNew (p := ⟨w.heap.size + 2, 0, none⟩) (by simp) (.bool g1)).setNew (p := ⟨w.heap.size + 2, 1, none⟩) (by simp) (.slice aL L1.length dL)).setNew (p := ⟨w.heap.size + 2, 2, none⟩) (by simp) (.int .i64 p1)).setNew (p := ⟨w.heap.size + 2, 3, none⟩) (by simp) (.bool g2)).setNew (p := ⟨w.heap.size + 2, 4, none⟩) (by simp) (.slice aM L2.length dM)).setNew (p := ⟨w.heap.size + 2, 5, none⟩) (by simp) (.int .i64 p2))
  have RL := hide ((((((rL.set_other (p := ⟨w.heap.size + 2, 0, none⟩) (.inl (by have := unhide S0; dsimp only; omega)) (.bool g1)).set_other (p := ⟨w.heap.size + 2, 1, none⟩) (.inl (by have := unhide S0; dsimp only; omega)) (.slice aL L1.length dL)).set_other (p := ⟨w.heap.size + 2, 2, none⟩) (.inl (by have := unhide S0; dsimp only; omega)) (.int .i64 p1)).set_other (p := ⟨w.heap.size + 2, 3, none⟩) (.inl (by have := unhide S0; dsimp only; omega)) (.bool g2)).set_other (p := ⟨w.heap.size + 2, 4, none⟩) (.inl (by have := unhide S0; dsimp only; omega)) (.slice aM L2.length dM)).set_other (p := ⟨w.heap.size + 2, 5, none⟩) (.inl (by have := unhide S0; dsimp only; omega)) (.int .i64 p2))
  have RM := hide ((((((rM.set_other (p := ⟨w.heap.size + 2, 0, none⟩) (.inl (by have := unhide S0; dsimp only; omega)) (.bool g1)).set_other (p := ⟨w.heap.size + 2, 1, none⟩) (.inl (by have := unhide S0; dsimp only; omega)) (.slice aL L1.length dL)).set_other (p := ⟨w.heap.size + 2, 2, none⟩) (.inl (by have := unhide S0; dsimp only; omega)) (.int .i64 p1)).set_other (p := ⟨w.heap.size + 2, 3, none⟩) (.inl (by have := unhide S0; dsimp only; omega)) (.bool g2)).set_other (p := ⟨w.heap.size + 2, 4, none⟩) (.inl (by have := unhide S0; dsimp only; omega)) (.slice aM L2.length dM)).set_other (p := ⟨w.heap.size + 2, 5, none⟩) (.inl (by have := unhide S0; dsimp only; omega)) (.int .i64 p2))
  clear K
  have sS0 := unhide S0
  exact bodyPost_ret (v := .tuple #[.agg #[.bool g1, .slice aL L1.length dL, .int .i64 p1, .bool g2, .slice aM L2.length dM, .int .i64 p2], .bool true]) (by simp [results, Tryd.results37, go_sem, R0, R1, R2, R3, R4, R5]) rfl (by rw [unhide EO]; exact ivAns_yes (mid := wm3.heap.size) ((unhide RL).wider (by omega) (by omega)) (unhide RM).tight (by omega) (by simp only [size_set]; omega) (unhide K7))

end Go.Proofs.YtbihbloknmjfjaaDoor
