/-
  A law over matrices of intervals: an answer set down.
-/
import Derived.Test.YthahoabkehcgbaaDoorIvs2
import Derived.Test.YthahoabkehcgbaaDoorFit8
namespace Go.Proofs.YthahoabkehcgbaaDoor
open Go.RowKit
set_option linter.unusedVariables false
set_option maxRecDepth 8000

theorem law_setX {cur w9 : World} {X : Nat} {v z z' : Value} {zs : List DE} {b hi n : Nat} (s : Int) (k : Kept 0 0 cur w9) (c : w9.cell? ⟨X, 0, none⟩ = some z) (c' : w9.cell? ⟨X, 1, none⟩ = some z') (r : IvsO b hi w9 v zs n) (hX : cur.heap.size ≤ X) (hb : X < b ∨ hi ≤ X) (hc : cur.heap.size ≤ b) (hh : hi ≤ w9.heap.size) :
    ((w9.setCell ⟨X, 0, none⟩ (.int .i64 s)).setCell ⟨X, 1, none⟩ v).cell? ⟨X, 0, none⟩ = some (.int .i64 s) ∧ ((w9.setCell ⟨X, 0, none⟩ (.int .i64 s)).setCell ⟨X, 1, none⟩ v).cell? ⟨X, 1, none⟩ = some v ∧ IvsO cur.heap.size ((w9.setCell ⟨X, 0, none⟩ (.int .i64 s)).setCell ⟨X, 1, none⟩ v).heap.size ((w9.setCell ⟨X, 0, none⟩ (.int .i64 s)).setCell ⟨X, 1, none⟩ v) v zs n ∧ cur.heap.size ≤ X ∧ X < ((w9.setCell ⟨X, 0, none⟩ (.int .i64 s)).setCell ⟨X, 1, none⟩ v).heap.size ∧ Kept 0 0 cur ((w9.setCell ⟨X, 0, none⟩ (.int .i64 s)).setCell ⟨X, 1, none⟩ v) := by
  have e1 : (w9.setCell ⟨X, 0, none⟩ (.int .i64 s)).cell? ⟨X, 0, none⟩ = some (.int .i64 s) := cell_on _ _ _ _ _ c
  have e2 := cell_set w9 X 1 0 (.int .i64 s) z' c'
  rw [if_neg (by decide)] at e2
  have e3 := cell_set _ X 0 1 v _ e1
  rw [if_neg (by decide)] at e3
  have e4 := cell_set _ X 1 1 v _ e2
  rw [if_pos rfl] at e4
  have ks : Kept X (X + 1) w9 ((w9.setCell ⟨X, 0, none⟩ (.int .i64 s)).setCell ⟨X, 1, none⟩ v) :=
    ((Kept.refl _ _ _).setCell (p := ⟨X, 0, none⟩) (Nat.le_refl _) (Nat.lt_succ_self _) _).setCell (p := ⟨X, 1, none⟩) (Nat.le_refl _) (Nat.lt_succ_self _) _
  have hsz : ((w9.setCell ⟨X, 0, none⟩ (.int .i64 s)).setCell ⟨X, 1, none⟩ v).heap.size = w9.heap.size := by rw [size_set, size_set]
  exact ⟨e3, e4, (r.kept ks (by omega)).wider hc (by rw [hsz]; exact hh), hX, by have := World.block_lt_of_cell? _ _ c; simpa [World.setCell] using this, (k.setNew (p := ⟨X, 0, none⟩) hX _).setNew (p := ⟨X, 1, none⟩) hX v⟩

end Go.Proofs.YthahoabkehcgbaaDoor
