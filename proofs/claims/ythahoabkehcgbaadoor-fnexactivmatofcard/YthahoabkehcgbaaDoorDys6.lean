/-
  A list that is being filled with numbers whose limbs may lie elsewhere: it is read, not written, later.
-/
import Derived.Test.YthahoabkehcgbaaDoorBM
namespace Go.Proofs.YthahoabkehcgbaaDoor
open Go.RowKit
set_option linter.unusedVariables false
set_option maxRecDepth 8000

/-- A number that is only read is stored into three cells. -/
theorem DyAt.storeR {w : World} {g o l h : Nat} {s : Bool} {u : Value} {y : Int} {z : List Int} (h0 : ∃ x, w.cell? ⟨g, o, none⟩ = some x) (h1 : ∃ x, w.cell? ⟨g, o + 1, none⟩ = some x) (h2 : ∃ x, w.cell? ⟨g, o + 2, none⟩ = some x) (r : Row .i64 false l h w u z) (hb : z ≠ [] → g < l ∨ h ≤ g) :
    DyAt false l h (((w.setCell ⟨g, o, none⟩ (.bool s)).setCell ⟨g, o + 1, none⟩ u).setCell ⟨g, o + 2, none⟩ (.int .i64 y)) g o (s, z, y) := by
  obtain ⟨x0, h0⟩ := h0
  obtain ⟨x1, h1⟩ := h1
  obtain ⟨x2, h2⟩ := h2
  have k : Kept g (g + 1) w (((w.setCell ⟨g, o, none⟩ (.bool s)).setCell ⟨g, o + 1, none⟩ u).setCell ⟨g, o + 2, none⟩ (.int .i64 y)) :=
    (((Kept.refl g (g + 1) w).setCell (p := ⟨g, o, none⟩) (Nat.le_refl _) (Nat.lt_succ_self _) _).setCell (p := ⟨g, o + 1, none⟩) (Nat.le_refl _) (Nat.lt_succ_self _) _).setCell (p := ⟨g, o + 2, none⟩) (Nat.le_refl _) (Nat.lt_succ_self _) _
  have rr : Row .i64 false l h (((w.setCell ⟨g, o, none⟩ (.bool s)).setCell ⟨g, o + 1, none⟩ u).setCell ⟨g, o + 2, none⟩ (.int .i64 y)) u z := by
    by_cases e : z = []
    · exact r.none e
    · have := hb e
      exact r.kept k (by omega)
  refine ⟨u, ?_, ?_, ?_, rr⟩
  · exact cell_off _ _ _ _ _ _ (cell_off _ _ _ _ _ _ (cell_on _ _ _ _ _ h0) (by omega)) (by omega)
  · refine cell_off _ _ _ _ _ _ (cell_on _ _ _ _ x1 ?_) (by omega)
    exact cell_off _ _ _ _ _ _ h1 (by omega)
  · refine cell_on _ _ _ _ x2 ?_
    exact cell_off _ _ _ _ _ _ (cell_off _ _ _ _ _ _ h2 (by omega)) (by omega)

/-- A list that is being filled: the numbers at the places of P are there. -/
structure FillP (B g n : Nat) (ds : List DE) (P : Nat → Prop) (w : World) : Prop where
  lt : g < w.heap.size
  lb : B ≤ g
  got : ∀ i, i < n → P i → ∃ l h, ((ds.getD i de0).2.1 ≠ [] → g < l ∨ h ≤ B) ∧ DyAt false l h w g (i * 3) (ds.getD i de0)
  cell : ∀ k, k < n * 3 → ∃ u, w.cell? ⟨g, k, none⟩ = some u
  loose : ∀ k, k < n * 3 → w.frozen? ⟨g, k, none⟩ = false

theorem Fill.toP {lo B g n : Nat} {ds ds' : List DE} {P : Nat → Prop} {w : World} (f : Fill lo g n ds 0 w) (hB : B ≤ g) (hP : ∀ i, i < n → ¬ P i) : FillP B g n ds' P w :=
  ⟨f.lt, hB, fun i hi h => absurd h (hP i hi), f.cell, f.loose⟩
theorem FillP.keptW {B g n l' h' : Nat} {ds : List DE} {P : Nat → Prop} {w w' : World} (f : FillP B g n ds P w) (k : Kept l' h' w w') (h1 : B ≤ l' ∨ h' ≤ l') (h2 : h' ≤ g) : FillP B g n ds P w' := by
  have hb := k.block g f.lt (.inr h2)
  have hB := f.lb
  exact ⟨Nat.lt_of_lt_of_le f.lt k.size, hB, fun i hi h => by
    obtain ⟨l, h, q1, q2⟩ := f.got i hi h
    exact ⟨l, h, q1, q2.keptE k (fun e => by have := q1 e; omega) (by omega)⟩, fun q hq => by obtain ⟨x, hx⟩ := f.cell q hq; exact ⟨x, (World.cell?_of_block (w := w) (a := ⟨g, q, none⟩) hb).trans hx⟩, fun q hq => (World.frozen?_of_block (w := w) (a := ⟨g, q, none⟩) hb).trans (f.loose q hq)⟩
theorem FillP.kept {B g n : Nat} {ds : List DE} {P : Nat → Prop} {w w' : World} (f : FillP B g n ds P w) (k : Kept 0 0 w w') : FillP B g n ds P w' := f.keptW k (.inr (Nat.le_refl 0)) (Nat.zero_le _)
theorem FillP.step {B g n j l hh : Nat} {ds : List DE} {P P' : Nat → Prop} {w w' : World} {s : Bool} {u : Value} {y : Int} {z : List Int} (f : FillP B g n ds P w) (hj : j < n) (k : Kept 0 0 w w') (r : Row .i64 false l hh w' u z) (hr : z ≠ [] → g < l ∨ hh ≤ B) (he : ds.getD j de0 = (s, z, y)) (hP : ∀ i, P' i → i = j ∨ P i) :
    FillP B g n ds P' (((w'.setCell ⟨g, j * 3, none⟩ (.bool s)).setCell ⟨g, j * 3 + 1, none⟩ u).setCell ⟨g, j * 3 + 2, none⟩ (.int .i64 y)) := by
  have f' := f.kept k
  have hB := f.lb
  refine ⟨by rw [size_set, size_set, size_set]; exact f'.lt, hB, fun i hi hPi => ?_, fun k' hk' => ?_, fun k' hk' => ?_⟩
  · by_cases e : i = j
    · subst e
      rw [he]
      exact ⟨l, hh, hr, DyAt.storeR (f'.cell _ (by omega)) (f'.cell _ (by omega)) (f'.cell _ (by omega)) r (fun e => by have := hr e; omega)⟩
    · obtain ⟨l', h', h1, h2⟩ := f'.got i hi ((hP i hPi).resolve_left e)
      exact ⟨l', h', h1, h2.stored _ _ _ (fun e => by have := h1 e; omega) (by omega)⟩
  · obtain ⟨x, hx⟩ := f'.cell k' hk'
    obtain ⟨x1, hx1⟩ := cells_of_setCell (p := j * 3) (u := .bool s) hx
    obtain ⟨x2, hx2⟩ := cells_of_setCell (p := j * 3 + 1) (u := u) hx1
    exact cells_of_setCell (p := j * 3 + 2) (u := .int .i64 y) hx2
  · rw [frozen_set, frozen_set, frozen_set]
    exact f'.loose k' hk'
theorem FillP.done {B g n : Nat} {ds : List DE} {P : Nat → Prop} {w : World} (f : FillP B g n ds P w) (hP : ∀ i, i < n → P i) (hn : n = ds.length) (hm : n ≤ maxLen) : Dys 0 w.heap.size w (.slice (some ⟨g, 0, none⟩) n n) ds := by
  subst hn
  refine ⟨_, _, rfl, Nat.le_refl _, hm, fun _ => ⟨g, 0, rfl, Nat.zero_le _, f.lt, f.lt, fun i hi => ?_⟩⟩
  obtain ⟨l, h, h1, u, c0, c1, c2, r⟩ := f.got i hi (hP i hi)
  rw [Nat.zero_add]
  exact ⟨u, c0, c1, c2, r.tight.wider (Nat.zero_le _) (Nat.le_refl _)⟩

end Go.Proofs.YthahoabkehcgbaaDoor
