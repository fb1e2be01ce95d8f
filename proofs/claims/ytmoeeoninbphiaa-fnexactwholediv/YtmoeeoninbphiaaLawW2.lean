/-
  Two results of a law's call, stored.
-/
import Derived.Test.YtmoeeoninbphiaaBJ
namespace Go.Proofs.Ytmoeeoninbphiaa
open Go.RowKit
set_option linter.unusedVariables false

theorem law_setNN {cur w9 : World} {X Y : Nat} {v u z z' : Value} {zs ys : List Int} {b hi b' hi' : Nat} (k : Kept 0 0 cur w9) (c : w9.cell? ⟨X, 0, none⟩ = some z) (c' : w9.cell? ⟨Y, 0, none⟩ = some z') (r : Row .i64 true b hi w9 v zs) (r' : Row .i64 true b' hi' w9 u ys) (hXY : X ≠ Y)
    (hX : cur.heap.size ≤ X) (hY : cur.heap.size ≤ Y) (h1 : X < b ∨ hi ≤ X) (h2 : Y < b ∨ hi ≤ Y) (h3 : X < b' ∨ hi' ≤ X) (h4 : Y < b' ∨ hi' ≤ Y) (hc : cur.heap.size ≤ b) (hc' : cur.heap.size ≤ b') :
    ((w9.setCell ⟨X, 0, none⟩ v).setCell ⟨Y, 0, none⟩ u).cell? ⟨X, 0, none⟩ = some v ∧ Row .i64 true cur.heap.size ((w9.setCell ⟨X, 0, none⟩ v).setCell ⟨Y, 0, none⟩ u).heap.size ((w9.setCell ⟨X, 0, none⟩ v).setCell ⟨Y, 0, none⟩ u) v zs ∧ cur.heap.size ≤ X ∧ X < ((w9.setCell ⟨X, 0, none⟩ v).setCell ⟨Y, 0, none⟩ u).heap.size ∧
    ((w9.setCell ⟨X, 0, none⟩ v).setCell ⟨Y, 0, none⟩ u).cell? ⟨Y, 0, none⟩ = some u ∧ Row .i64 true cur.heap.size ((w9.setCell ⟨X, 0, none⟩ v).setCell ⟨Y, 0, none⟩ u).heap.size ((w9.setCell ⟨X, 0, none⟩ v).setCell ⟨Y, 0, none⟩ u) u ys ∧ cur.heap.size ≤ Y ∧ Y < ((w9.setCell ⟨X, 0, none⟩ v).setCell ⟨Y, 0, none⟩ u).heap.size ∧
    Kept 0 0 cur ((w9.setCell ⟨X, 0, none⟩ v).setCell ⟨Y, 0, none⟩ u) := by
  have lX := World.block_lt_of_cell? _ _ c
  have lY := World.block_lt_of_cell? _ _ c'
  have hs : ((w9.setCell ⟨X, 0, none⟩ v).setCell ⟨Y, 0, none⟩ u).heap.size = w9.heap.size := by simp [World.setCell]
  refine ⟨cell_aside u (p := ⟨X, 0, none⟩) (r := ⟨Y, 0, none⟩) (fun e => hXY e.symm) (cell_on _ _ _ _ _ c), ?_, hX, by rw [hs]; exact lX, cell_on _ _ _ _ _ (cell_aside v (p := ⟨Y, 0, none⟩) (r := ⟨X, 0, none⟩) hXY c'), ?_, hY, by rw [hs]; exact lY, (k.setNew (p := ⟨X, 0, none⟩) hX v).setNew (p := ⟨Y, 0, none⟩) hY u⟩
  · exact ((r.set_other (p := ⟨X, 0, none⟩) h1 v).set_other (p := ⟨Y, 0, none⟩) h2 u).tight.wider hc (Nat.le_refl _)
  · exact ((r'.set_other (p := ⟨X, 0, none⟩) h3 v).set_other (p := ⟨Y, 0, none⟩) h4 u).tight.wider hc' (Nat.le_refl _)

theorem q1 {α : Type _} {xs : List α} {i : Nat} (h : i < xs.toArray.size) : xs.toArray[i] = xs[i]'(by simpa using h) := List.getElem_toArray h
theorem q2 {α : Type _} {a : α} {xs : List α} {i : Nat} (h : i + 1 < (a :: xs).length) : (a :: xs)[i + 1] = xs[i]'(by simpa using h) := List.getElem_cons_succ ..
theorem q3 {α : Type _} {a : α} {xs : List α} (h : 0 < (a :: xs).length) : (a :: xs)[0] = a := rfl
theorem q4 {α : Type _} {xs : List α} {i : Nat} {a : α} : xs.toArray.setIfInBounds i a = (xs.set i a).toArray := List.setIfInBounds_toArray ..
theorem q5 {α : Type _} {x : α} {xs : List α} {a : α} : (x :: xs).set 0 a = a :: xs := rfl
theorem q6 {α : Type _} {x : α} {xs : List α} {i : Nat} {a : α} : (x :: xs).set (i + 1) a = x :: xs.set i a := rfl
theorem bl {w : World} {a : Addr} {v : Value} (h : w.cell? a = some v) : a.block < w.heap.size := World.block_lt_of_cell? _ _ h
theorem kz (w : World) : Kept 0 0 w (w.alloc (.cells #[.slice none 0 0] 28)) := (Kept.refl 0 0 w).alloc _

end Go.Proofs.Ytmoeeoninbphiaa
