/-
  A choice of two.
-/
import Derived.Test.YtgdgkncielliaaaDoorBC
namespace Go.Proofs.YtgdgkncielliaaaDoor
open Go.RowKit
set_option linter.unusedVariables false

/-- The second one, if c, else the first. -/
def pk {α : Type} (c : Bool) (a b : α) : α := if c = true then b else a
theorem pk_yes {α : Type} {c : Bool} (a b : α) (h : c = true) : pk c a b = b := by unfold pk; rw [if_pos h]
theorem pk_no {α : Type} {c : Bool} (a b : α) (h : c = false) : pk c a b = a := by unfold pk; rw [if_neg (by rw [h]; decide)]
theorem row_pk {b1 b2 : Bool} {l1 h1 l2 h2 H : Nat} {w : World} {v1 v2 : Value} {xs ys : List Int} (c : Bool) (r1 : Row .i64 b1 l1 h1 w v1 xs) (r2 : Row .i64 b2 l2 h2 w v2 ys) (g1 : h1 ≤ H) (g2 : h2 ≤ H) : Row .i64 false 0 H w (pk c v1 v2) (pk c xs ys) := by
  cases c
  · exact r1.read.wider (Nat.zero_le _) g1
  · exact r2.read.wider (Nat.zero_le _) g2
theorem pk_le {x1 x2 a : Int} (c : Bool) (h1 : x1 ≤ a) (h2 : x2 ≤ a) : pk c x1 x2 ≤ a := by
  cases c
  · exact h1
  · exact h2
theorem pk_ge {x1 x2 a : Int} (c : Bool) (h1 : a ≤ x1) (h2 : a ≤ x2) : a ≤ pk c x1 x2 := by
  cases c
  · exact h1
  · exact h2
theorem choice_set {cur w9 : World} {X H : Nat} {x0 x1 x2 x3 x4 x5 z0 z1 z2 z3 z4 z5 v v' : Value} {zs zs' : List Int} (k : Kept 0 0 cur w9) (c0 : w9.cell? ⟨X, 0, none⟩ = some z0) (c1 : w9.cell? ⟨X, 1, none⟩ = some z1) (c2 : w9.cell? ⟨X, 2, none⟩ = some z2) (c3 : w9.cell? ⟨X, 3, none⟩ = some z3) (c4 : w9.cell? ⟨X, 4, none⟩ = some z4) (c5 : w9.cell? ⟨X, 5, none⟩ = some z5) (r : Row .i64 false 0 H w9 v zs) (r' : Row .i64 false 0 H w9 v' zs') (hX : cur.heap.size ≤ X) (hH : H ≤ X) :
    ((((((w9.setCell ⟨X, 0, none⟩ x0).setCell ⟨X, 1, none⟩ x1).setCell ⟨X, 2, none⟩ x2).setCell ⟨X, 3, none⟩ x3).setCell ⟨X, 4, none⟩ x4).setCell ⟨X, 5, none⟩ x5).cell? ⟨X, 0, none⟩ = some x0 ∧ ((((((w9.setCell ⟨X, 0, none⟩ x0).setCell ⟨X, 1, none⟩ x1).setCell ⟨X, 2, none⟩ x2).setCell ⟨X, 3, none⟩ x3).setCell ⟨X, 4, none⟩ x4).setCell ⟨X, 5, none⟩ x5).cell? ⟨X, 1, none⟩ = some x1 ∧ ((((((w9.setCell ⟨X, 0, none⟩ x0).setCell ⟨X, 1, none⟩ x1).setCell ⟨X, 2, none⟩ x2).setCell ⟨X, 3, none⟩ x3).setCell ⟨X, 4, none⟩ x4).setCell ⟨X, 5, none⟩ x5).cell? ⟨X, 2, none⟩ = some x2 ∧ ((((((w9.setCell ⟨X, 0, none⟩ x0).setCell ⟨X, 1, none⟩ x1).setCell ⟨X, 2, none⟩ x2).setCell ⟨X, 3, none⟩ x3).setCell ⟨X, 4, none⟩ x4).setCell ⟨X, 5, none⟩ x5).cell? ⟨X, 3, none⟩ = some x3 ∧ ((((((w9.setCell ⟨X, 0, none⟩ x0).setCell ⟨X, 1, none⟩ x1).setCell ⟨X, 2, none⟩ x2).setCell ⟨X, 3, none⟩ x3).setCell ⟨X, 4, none⟩ x4).setCell ⟨X, 5, none⟩ x5).cell? ⟨X, 4, none⟩ = some x4 ∧ ((((((w9.setCell ⟨X, 0, none⟩ x0).setCell ⟨X, 1, none⟩ x1).setCell ⟨X, 2, none⟩ x2).setCell ⟨X, 3, none⟩ x3).setCell ⟨X, 4, none⟩ x4).setCell ⟨X, 5, none⟩ x5).cell? ⟨X, 5, none⟩ = some x5 ∧ Row .i64 false 0 H ((((((w9.setCell ⟨X, 0, none⟩ x0).setCell ⟨X, 1, none⟩ x1).setCell ⟨X, 2, none⟩ x2).setCell ⟨X, 3, none⟩ x3).setCell ⟨X, 4, none⟩ x4).setCell ⟨X, 5, none⟩ x5) v zs ∧ Row .i64 false 0 H ((((((w9.setCell ⟨X, 0, none⟩ x0).setCell ⟨X, 1, none⟩ x1).setCell ⟨X, 2, none⟩ x2).setCell ⟨X, 3, none⟩ x3).setCell ⟨X, 4, none⟩ x4).setCell ⟨X, 5, none⟩ x5) v' zs' ∧ Kept 0 0 cur ((((((w9.setCell ⟨X, 0, none⟩ x0).setCell ⟨X, 1, none⟩ x1).setCell ⟨X, 2, none⟩ x2).setCell ⟨X, 3, none⟩ x3).setCell ⟨X, 4, none⟩ x4).setCell ⟨X, 5, none⟩ x5) :=
  ⟨(cell_off _ _ _ _ x5 _ (cell_off _ _ _ _ x4 _ (cell_off _ _ _ _ x3 _ (cell_off _ _ _ _ x2 _ (cell_off _ _ _ _ x1 _ (cell_on _ _ _ _ _ c0) (by omega)) (by omega)) (by omega)) (by omega)) (by omega)), (cell_off _ _ _ _ x5 _ (cell_off _ _ _ _ x4 _ (cell_off _ _ _ _ x3 _ (cell_off _ _ _ _ x2 _ (cell_on _ _ _ _ _ (cell_off _ _ _ _ x0 _ c1 (by omega))) (by omega)) (by omega)) (by omega)) (by omega)), (cell_off _ _ _ _ x5 _ (cell_off _ _ _ _ x4 _ (cell_off _ _ _ _ x3 _ (cell_on _ _ _ _ _ (cell_off _ _ _ _ x1 _ (cell_off _ _ _ _ x0 _ c2 (by omega)) (by omega))) (by omega)) (by omega)) (by omega)), (cell_off _ _ _ _ x5 _ (cell_off _ _ _ _ x4 _ (cell_on _ _ _ _ _ (cell_off _ _ _ _ x2 _ (cell_off _ _ _ _ x1 _ (cell_off _ _ _ _ x0 _ c3 (by omega)) (by omega)) (by omega))) (by omega)) (by omega)), (cell_off _ _ _ _ x5 _ (cell_on _ _ _ _ _ (cell_off _ _ _ _ x3 _ (cell_off _ _ _ _ x2 _ (cell_off _ _ _ _ x1 _ (cell_off _ _ _ _ x0 _ c4 (by omega)) (by omega)) (by omega)) (by omega))) (by omega)), (cell_on _ _ _ _ _ (cell_off _ _ _ _ x4 _ (cell_off _ _ _ _ x3 _ (cell_off _ _ _ _ x2 _ (cell_off _ _ _ _ x1 _ (cell_off _ _ _ _ x0 _ c5 (by omega)) (by omega)) (by omega)) (by omega)) (by omega))), ((((((r.set_other (p := ⟨X, 0, none⟩) (.inr hH) x0).set_other (p := ⟨X, 1, none⟩) (.inr hH) x1).set_other (p := ⟨X, 2, none⟩) (.inr hH) x2).set_other (p := ⟨X, 3, none⟩) (.inr hH) x3).set_other (p := ⟨X, 4, none⟩) (.inr hH) x4).set_other (p := ⟨X, 5, none⟩) (.inr hH) x5), ((((((r'.set_other (p := ⟨X, 0, none⟩) (.inr hH) x0).set_other (p := ⟨X, 1, none⟩) (.inr hH) x1).set_other (p := ⟨X, 2, none⟩) (.inr hH) x2).set_other (p := ⟨X, 3, none⟩) (.inr hH) x3).set_other (p := ⟨X, 4, none⟩) (.inr hH) x4).set_other (p := ⟨X, 5, none⟩) (.inr hH) x5), ((((((k.setNew (p := ⟨X, 0, none⟩) hX x0).setNew (p := ⟨X, 1, none⟩) hX x1).setNew (p := ⟨X, 2, none⟩) hX x2).setNew (p := ⟨X, 3, none⟩) hX x3).setNew (p := ⟨X, 4, none⟩) hX x4).setNew (p := ⟨X, 5, none⟩) hX x5)⟩

end Go.Proofs.YtgdgkncielliaaaDoor
