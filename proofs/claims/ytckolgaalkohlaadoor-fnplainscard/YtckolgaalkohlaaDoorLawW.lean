/-
  What the laws over numbers share: an answer that is put into a cell, calls as steps, worlds that keep what was there when newer blocks are marked.
-/
import Derived.Test.YtckolgaalkohlaaDoorBC
namespace Go.Proofs.YtckolgaalkohlaaDoor
open Go.RowKit
set_option linter.unusedVariables false
set_option maxRecDepth 8000

theorem Kept.wide {lo hi : Nat} {a b c : World} (k : Kept 0 0 a b) (m : Kept lo hi b c) (h : a.heap.size ≤ lo) : Kept 0 0 a c :=
  ⟨m.os.trans k.os, m.tape.trans k.tape, m.output.trans k.output, Nat.le_trans k.size m.size, fun i hi' ho => (m.block i (Nat.lt_of_lt_of_le hi' k.size) (.inl (by omega))).trans (k.block i hi' ho)⟩
theorem law_setN {cur w9 : World} {X : Nat} {v z : Value} {zs : List Int} {b hi : Nat} (k : Kept 0 0 cur w9) (c : w9.cell? ⟨X, 0, none⟩ = some z) (r : Row .i64 true b hi w9 v zs) (hX : cur.heap.size ≤ X) (hb : X < b ∨ hi ≤ X) (hc : cur.heap.size ≤ b) :
    (w9.setCell ⟨X, 0, none⟩ v).cell? ⟨X, 0, none⟩ = some v ∧ Row .i64 true cur.heap.size (w9.setCell ⟨X, 0, none⟩ v).heap.size (w9.setCell ⟨X, 0, none⟩ v) v zs ∧ cur.heap.size ≤ X ∧ X < (w9.setCell ⟨X, 0, none⟩ v).heap.size ∧ Kept 0 0 cur (w9.setCell ⟨X, 0, none⟩ v) :=
  ⟨cell_on _ _ _ _ _ c, ((r.set_other (p := ⟨X, 0, none⟩) hb v).tight.wider hc (Nat.le_refl _)), hX, by have := World.block_lt_of_cell? _ _ c; simpa [World.setCell] using this, k.setNew (p := ⟨X, 0, none⟩) hX v⟩
theorem law_setW {cur w9 : World} {X : Nat} {v z z' : Value} {zs : List Int} {b hi : Nat} (s : Bool) (k : Kept 0 0 cur w9) (c : w9.cell? ⟨X, 0, none⟩ = some z) (c' : w9.cell? ⟨X, 1, none⟩ = some z') (r : Row .i64 true b hi w9 v zs) (hX : cur.heap.size ≤ X) (hb : X < b ∨ hi ≤ X) (hc : cur.heap.size ≤ b) :
    ((w9.setCell ⟨X, 0, none⟩ (.bool s)).setCell ⟨X, 1, none⟩ v).cell? ⟨X, 0, none⟩ = some (.bool s) ∧ ((w9.setCell ⟨X, 0, none⟩ (.bool s)).setCell ⟨X, 1, none⟩ v).cell? ⟨X, 1, none⟩ = some v ∧ Row .i64 true cur.heap.size ((w9.setCell ⟨X, 0, none⟩ (.bool s)).setCell ⟨X, 1, none⟩ v).heap.size ((w9.setCell ⟨X, 0, none⟩ (.bool s)).setCell ⟨X, 1, none⟩ v) v zs ∧ cur.heap.size ≤ X ∧ X < ((w9.setCell ⟨X, 0, none⟩ (.bool s)).setCell ⟨X, 1, none⟩ v).heap.size ∧ Kept 0 0 cur ((w9.setCell ⟨X, 0, none⟩ (.bool s)).setCell ⟨X, 1, none⟩ v) := by
  have e1 : (w9.setCell ⟨X, 0, none⟩ (.bool s)).cell? ⟨X, 0, none⟩ = some (.bool s) := cell_on _ _ _ _ _ c
  have e2 := cell_set w9 X 1 0 (.bool s) z' c'
  rw [if_neg (by decide)] at e2
  have e3 := cell_set _ X 0 1 v _ e1
  rw [if_neg (by decide)] at e3
  have e4 := cell_set _ X 1 1 v _ e2
  rw [if_pos rfl] at e4
  exact ⟨e3, e4, (((r.set_other (p := ⟨X, 0, none⟩) hb (.bool s)).set_other (p := ⟨X, 1, none⟩) hb v).tight.wider hc (Nat.le_refl _)), hX, by have := World.block_lt_of_cell? _ _ c; simpa [World.setCell] using this, (k.setNew (p := ⟨X, 0, none⟩) hX _).setNew (p := ⟨X, 1, none⟩) hX v⟩

end Go.Proofs.YtckolgaalkohlaaDoor
