/-
  Two whole numbers that a law's call answers, stored.
-/
import Derived.Test.YtmoeeoninbphiaaLawW2
import Derived.Test.YtmoeeoninbphiaaBC
namespace Go.Proofs.Ytmoeeoninbphiaa
open Go.RowKit
set_option linter.unusedVariables false

theorem law_setWW {cur w9 : World} {X Y : Nat} {v u z0 z1 z2 z3 : Value} {zs ys : List Int} {b hi b' hi' : Nat} (s t : Bool) (k : Kept 0 0 cur w9) (c0 : w9.cell? ⟨X, 0, none⟩ = some z0) (c1 : w9.cell? ⟨X, 1, none⟩ = some z1) (d0 : w9.cell? ⟨Y, 0, none⟩ = some z2) (d1 : w9.cell? ⟨Y, 1, none⟩ = some z3) (r : Row .i64 true b hi w9 v zs) (r' : Row .i64 true b' hi' w9 u ys) (hXY : X ≠ Y)
    (hX : cur.heap.size ≤ X) (hY : cur.heap.size ≤ Y) (h1 : X < b ∨ hi ≤ X) (h2 : Y < b ∨ hi ≤ Y) (h3 : X < b' ∨ hi' ≤ X) (h4 : Y < b' ∨ hi' ≤ Y) (hc : cur.heap.size ≤ b) (hc' : cur.heap.size ≤ b') {FW : World} (hFW : FW = (((w9.setCell ⟨X, 0, none⟩ (.bool s)).setCell ⟨X, 1, none⟩ v).setCell ⟨Y, 0, none⟩ (.bool t)).setCell ⟨Y, 1, none⟩ u) :
    FW.cell? ⟨X, 0, none⟩ = some (.bool s) ∧ FW.cell? ⟨X, 1, none⟩ = some v ∧ Row .i64 true cur.heap.size FW.heap.size FW v zs ∧ cur.heap.size ≤ X ∧ X < FW.heap.size ∧
    FW.cell? ⟨Y, 0, none⟩ = some (.bool t) ∧ FW.cell? ⟨Y, 1, none⟩ = some u ∧ Row .i64 true cur.heap.size FW.heap.size FW u ys ∧ cur.heap.size ≤ Y ∧ Y < FW.heap.size ∧ Kept 0 0 cur FW := by
  subst hFW
  obtain ⟨a0, a1, ar, -, al, ak⟩ := law_setW s k c0 c1 r hX h1 hc
  have e0 := cell_aside v (p := ⟨Y, 0, none⟩) (r := ⟨X, 1, none⟩) hXY (cell_aside (.bool s) (p := ⟨Y, 0, none⟩) (r := ⟨X, 0, none⟩) hXY d0)
  have e1 := cell_aside v (p := ⟨Y, 1, none⟩) (r := ⟨X, 1, none⟩) hXY (cell_aside (.bool s) (p := ⟨Y, 1, none⟩) (r := ⟨X, 0, none⟩) hXY d1)
  obtain ⟨b0, b1, br, -, bl, bk⟩ := law_setW t ak e0 e1 ((r'.set_other (p := ⟨X, 0, none⟩) h3 (.bool s)).set_other (p := ⟨X, 1, none⟩) h3 v) hY h4 hc'
  refine ⟨cell_aside u (p := ⟨X, 0, none⟩) (r := ⟨Y, 1, none⟩) (fun e => hXY e.symm) (cell_aside (.bool t) (p := ⟨X, 0, none⟩) (r := ⟨Y, 0, none⟩) (fun e => hXY e.symm) a0), cell_aside u (p := ⟨X, 1, none⟩) (r := ⟨Y, 1, none⟩) (fun e => hXY e.symm) (cell_aside (.bool t) (p := ⟨X, 1, none⟩) (r := ⟨Y, 0, none⟩) (fun e => hXY e.symm) a1), ?_, hX, ?_, b0, b1, br, hY, bl, bk⟩
  · exact ((((r.set_other (p := ⟨X, 0, none⟩) h1 (.bool s)).set_other (p := ⟨X, 1, none⟩) h1 v).set_other (p := ⟨Y, 0, none⟩) h2 (.bool t)).set_other (p := ⟨Y, 1, none⟩) h2 u).tight.wider hc (Nat.le_refl _)
  · have := World.block_lt_of_cell? _ _ c0
    simpa [World.setCell] using this

theorem newW (w : World) : Kept 0 0 w (w.alloc (.cells #[.bool false, .slice none 0 0] 30)) ∧ w.heap.size < (w.alloc (.cells #[.bool false, .slice none 0 0] 30)).heap.size ∧ (w.alloc (.cells #[.bool false, .slice none 0 0] 30)).cell? ⟨w.heap.size, 0, none⟩ = some (.bool false) ∧ (w.alloc (.cells #[.bool false, .slice none 0 0] 30)).cell? ⟨w.heap.size, 1, none⟩ = some (.slice none 0 0) ∧ (w.alloc (.cells #[.bool false, .slice none 0 0] 30)).frozen? ⟨w.heap.size, 0, none⟩ = false ∧ (w.alloc (.cells #[.bool false, .slice none 0 0] 30)).frozen? ⟨w.heap.size, 1, none⟩ = false :=
  ⟨(Kept.refl 0 0 w).alloc _, by simp, new_cell2 _ _ _ _ _ _ rfl rfl, new_cell2 _ _ _ _ _ _ rfl rfl, new_loose2 _ _ _ _ _ rfl, new_loose2 _ _ _ _ _ rfl⟩

end Go.Proofs.Ytmoeeoninbphiaa
