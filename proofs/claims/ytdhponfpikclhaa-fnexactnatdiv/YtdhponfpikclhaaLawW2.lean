/-
  Two results of a law's call, stored.
-/
import Derived.Test.YtdhponfpikclhaaLawW
namespace Go.Proofs.Ytdhponfpikclhaa
open Go.RowKit
set_option linter.unusedVariables false

theorem law_setNN {cur w9 : World} {X Y : Nat} {v u z z' : Value} {zs ys : List Int} {b hi b' hi' : Nat} (k : Kept 0 0 cur w9) (c : w9.cell? ⟨X, 0, none⟩ = some z) (c' : w9.cell? ⟨Y, 0, none⟩ = some z') (r : Row .i64 true b hi w9 v zs) (r' : Row .i64 true b' hi' w9 u ys) (hXY : X ≠ Y)
    (hX : cur.heap.size ≤ X) (hY : cur.heap.size ≤ Y) (h1 : X < b ∨ hi ≤ X) (h2 : Y < b ∨ hi ≤ Y) (h3 : X < b' ∨ hi' ≤ X) (h4 : Y < b' ∨ hi' ≤ Y) (hc : cur.heap.size ≤ b) (hc' : cur.heap.size ≤ b') :
    ((w9.setCell ⟨X, 0, none⟩ v).setCell ⟨Y, 0, none⟩ u).cell? ⟨X, 0, none⟩ = some v ∧ Row .i64 true cur.heap.size ((w9.setCell ⟨X, 0, none⟩ v).setCell ⟨Y, 0, none⟩ u).heap.size ((w9.setCell ⟨X, 0, none⟩ v).setCell ⟨Y, 0, none⟩ u) v zs ∧ cur.heap.size ≤ X ∧ X < ((w9.setCell ⟨X, 0, none⟩ v).setCell ⟨Y, 0, none⟩ u).heap.size ∧
    ((w9.setCell ⟨X, 0, none⟩ v).setCell ⟨Y, 0, none⟩ u).cell? ⟨Y, 0, none⟩ = some u ∧ Row .i64 true cur.heap.size ((w9.setCell ⟨X, 0, none⟩ v).setCell ⟨Y, 0, none⟩ u).heap.size ((w9.setCell ⟨X, 0, none⟩ v).setCell ⟨Y, 0, none⟩ u) u ys ∧ cur.heap.size ≤ Y ∧ Y < ((w9.setCell ⟨X, 0, none⟩ v).setCell ⟨Y, 0, none⟩ u).heap.size ∧
    Kept 0 0 cur ((w9.setCell ⟨X, 0, none⟩ v).setCell ⟨Y, 0, none⟩ u) := by
  have lX := World.block_lt_of_cell? _ _ c
  have lY := World.block_lt_of_cell? _ _ c'
  have hs : ((w9.setCell ⟨X, 0, none⟩ v).setCell ⟨Y, 0, none⟩ u).heap.size = w9.heap.size := by simp [World.setCell]
  refine ⟨cell_aside u (p := ⟨X, 0, none⟩) (r := ⟨Y, 0, none⟩) (fun e => hXY e.symm) (cell_on _ _ _ _ _ c), ?_, hX, by rw [hs]; exact lX, cell_on _ _ _ _ _ (cell_aside v (p := ⟨Y, 0, none⟩) (r := ⟨X, 0, none⟩) hXY c'), ?_, hY, by rw [hs]; exact lY, (k.setNew (p := ⟨X, 0, none⟩) hX v).setNew (p := ⟨Y, 0, none⟩) hY u⟩
  · exact ((r.set_other (p := ⟨X, 0, none⟩) h1 v).set_other (p := ⟨Y, 0, none⟩) h2 u).tight.wider hc (Nat.le_refl _)
  · exact ((r'.set_other (p := ⟨X, 0, none⟩) h3 v).set_other (p := ⟨Y, 0, none⟩) h4 u).tight.wider hc' (Nat.le_refl _)

end Go.Proofs.Ytdhponfpikclhaa
