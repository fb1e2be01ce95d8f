/-
  A number that is worked on, whose list may begin behind its block's first cell: at, trim, told.
-/
import Derived.Test.YtededkklgfhabaaINat14
import Derived.Test.YtededkklgfhabaaShrNum
namespace Go.Proofs.Ytededkklgfhabaa
open Go.RowKit
set_option linter.unusedVariables false
set_option maxRecDepth 8000

/-- The cell g holds the list v, which may be written, with the limbs zs. -/
structure Work (b : Nat) (w : World) (g : Nat) (v : Value) (zs : List Int) : Prop where
  cell : w.cell? ⟨g, 0, none⟩ = some v
  loose : w.frozen? ⟨g, 0, none⟩ = false
  row : Row .i64 true b w.heap.size w v zs
  apart : zs ≠ [] → v.ownBlock ≠ some g

theorem Row.aside {k : IntKind} {bw : Bool} {lo hi : Nat} {w : World} {v : Value} {zs : List Int} (r : Row k bw lo hi w v zs) {P o : Nat} (hne : zs ≠ [] → v.ownBlock ≠ some P) (u : Value) : Row k bw lo hi (w.setCell ⟨P, o, none⟩ u) v zs := by
  obtain ⟨a, c, rfl, h1, h2, h3⟩ := r
  refine ⟨a, c, rfl, h1, h2, fun hz => ?_⟩
  obtain ⟨g, off, rfl, hl, hh, hs, hc, hf⟩ := h3 hz
  have hn : g ≠ P := fun e => hne hz (by simp [Value.ownBlock, e])
  refine ⟨g, off, rfl, hl, hh, by rw [size_set]; exact hs, fun i hi' => ?_, fun e i hi' => by rw [frozen_set]; exact hf e i hi'⟩
  rw [cell_far _ _ _ _ _ (by exact hn)]
  exact hc i hi'
theorem Row.front {k : IntKind} {bw : Bool} {lo hi : Nat} {w : World} {a : Option Addr} {n c : Nat} {zs : List Int} (r : Row k bw lo hi w (.slice a n c) zs) (j : Nat) (hj : j ≤ n) : Row k bw lo hi w (.slice a j c) (zs.take j) := by
  obtain ⟨a', c', e, h1, h2, h3⟩ := r
  cases e
  have hl : (zs.take j).length = j := by simp; omega
  refine ⟨a, c, by rw [hl], by omega, h2, fun hz => ?_⟩
  obtain ⟨g, off, rfl, hlo, hh, hs, hc, hf⟩ := h3 (by intro e; subst e; simp at hz)
  refine ⟨g, off, rfl, hlo, hh, hs, fun i hi' => ?_, fun e i hi' => hf e i (by omega)⟩
  rw [hc i (by omega)]
  simp only [List.getD, List.getElem?_take]
  rw [if_pos (by omega)]

theorem Num.work {b g : Nat} {w : World} {v : Value} {zs : List Int} (h : Num b w g v zs) : Work b w g v zs := ⟨h.cell, h.loose, h.row, fun _ => h.apart⟩
theorem Work.lt {b g : Nat} {w : World} {v : Value} {zs : List Int} (h : Work b w g v zs) : g < w.heap.size := World.block_lt_of_cell? _ ⟨g, 0, none⟩ h.cell
theorem Work.form {b g : Nat} {w : World} {v : Value} {zs : List Int} (h : Work b w g v zs) : ∃ a c, v = .slice a zs.length c := Row.form' h.row
theorem Work.kept {b g : Nat} {w w' : World} {v : Value} {zs : List Int} (h : Work b w g v zs) (k : Kept 0 0 w w') : Work b w' g v zs :=
  ⟨k.cell0 h.cell, k.loose0 h.lt h.loose, (h.row.kept k (by omega)).tight, h.apart⟩
theorem Work.at {b g : Nat} {w : World} {v : Value} {zs : List Int} (h : Work b w g v zs) (j : Nat) (hj : j < zs.length) : ∃ g1 off c, v = .slice (some ⟨g1, off, none⟩) zs.length c ∧ zs.length ≤ c ∧ w.cell? ⟨g1, off + j, none⟩ = some (.int .i64 (zs.getD j 0)) ∧ w.frozen? ⟨g1, off + j, none⟩ = false ∧ g1 ≠ g ∧ b ≤ g1 := by
  have ha := h.apart
  obtain ⟨a, c, rfl, h1, h2, h3⟩ := h.row
  have hz : zs ≠ [] := by intro e; subst e; simp at hj
  obtain ⟨g1, off, rfl, hl, hh, hs, hc, hf⟩ := h3 hz
  exact ⟨g1, off, c, rfl, h1, hc j hj, hf rfl j hj, fun e => ha hz (by simp [Value.ownBlock, e]), hl⟩
theorem Work.put {b g g1 off n c : Nat} {w : World} {zs : List Int} (h : Work b w g (.slice (some ⟨g1, off, none⟩) n c) zs) (j : Nat) (hn : n = zs.length) (hj : j < n) (z : Int) : Work b (w.setCell ⟨g1, off + j, none⟩ (.int .i64 z)) g (.slice (some ⟨g1, off, none⟩) n c) (zs.set j z) := by
  have hz : zs ≠ [] := by intro e; subst e; simp at hn; omega
  have hne : g1 ≠ g := fun e => h.apart hz (by simp [Value.ownBlock, e])
  have := h.row.set j (by omega) z
  exact ⟨by rw [cell_far _ _ _ _ _ (by exact fun e => hne e.symm)]; exact h.cell, by rw [frozen_set]; exact h.loose, by rw [size_set]; exact this, fun _ => by simp [Value.ownBlock, hne]⟩
theorem Work.cut {b g n c : Nat} {a : Option Addr} {w : World} {zs : List Int} (h : Work b w g (.slice a n c) zs) (j : Nat) (hj : j ≤ n) : Work b (w.setCell ⟨g, 0, none⟩ (.slice a j c)) g (.slice a j c) (zs.take j) := by
  have hap : zs.take j ≠ [] → (Value.slice a j c).ownBlock ≠ some g := fun hz e => h.apart (by intro e; subst e; simp at hz) (by cases a <;> exact e)
  exact ⟨cell_on _ _ _ _ _ h.cell, by rw [frozen_set]; exact h.loose, by rw [size_set]; exact (h.row.front j hj).aside hap _, hap⟩

end Go.Proofs.Ytededkklgfhabaa
