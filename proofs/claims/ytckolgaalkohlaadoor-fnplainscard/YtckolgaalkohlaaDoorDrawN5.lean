/-
  The model's DrawNatCmp: two drawn lists.
-/
import Derived.Test.YtckolgaalkohlaaDoorDrawN4
import Derived.Test.YtckolgaalkohlaaDoorNat13
namespace Go.Proofs.YtckolgaalkohlaaDoor
open Go.RowKit
set_option linter.unusedVariables false
set_option maxRecDepth 8000
set_option linter.unusedSimpArgs false

theorem bent_at {zs : List Int} (h : ∀ z ∈ zs, -1 ≤ z ∧ z ≤ 65536) (i : Nat) : -1 ≤ zs.getD i 0 ∧ zs.getD i 0 ≤ 65536 := by
  by_cases hi : i < zs.length
  · have := h zs[i] (List.getElem_mem hi)
    simpa [List.getD, hi] using this
  · simp [List.getD, List.getElem?_eq_none (Nat.le_of_not_lt hi)]
theorem lim_at {zs : List Int} (h : Lim zs) (i : Nat) : -1 ≤ zs.getD i 0 ∧ zs.getD i 0 ≤ 65536 := by have := h.at i; omega
theorem Kept.newer' {lo hi : Nat} {a b c : World} (h : Kept 0 0 a b) (k : Kept lo hi b c) (hl : a.heap.size ≤ lo) : Kept 0 0 a c :=
  ⟨k.os.trans h.os, k.tape.trans h.tape, k.output.trans h.output, Nat.le_trans h.size k.size, fun i hi' ho => (k.block i (Nat.lt_of_lt_of_le hi' h.size) (.inl (by omega))).trans (h.block i hi' ho)⟩
theorem Kept.looseOut' {lo hi : Nat} {W w' : World} (k : Kept lo hi W w') {a : Addr} (ho : a.block < lo ∨ hi ≤ a.block) (hb : a.block < W.heap.size) (h : W.frozen? a = false) : w'.frozen? a = false := by
  rw [← h]; exact World.frozen?_of_block (k.block _ hb ho)
theorem limbs_small (x : Int) (h : x ≤ 9223372036854775807) : (limbs x.toNat).length ≤ 100000 := by
  have := (limbs_length_le x.toNat 4).2 (by
    have : (65536 : Int) ^ 4 = 18446744073709551616 := by decide
    omega)
  omega
/-- Two results are told. -/
theorem any_two {w W : World} {v1 v2 : Value} {zs1 zs2 : List Int} {lo1 hi1 lo2 hi2 : Nat} (k : Kept 0 0 w W) (r1 : Row .i64 true lo1 hi1 W v1 zs1) (r2 : Row .i64 true lo2 hi2 W v2 zs2) (h1 : w.heap.size + 2 ≤ lo1) (h2 : w.heap.size + 2 ≤ lo2) :
    AnyN w ((W.setCell ⟨w.heap.size, 0, none⟩ v1).setCell ⟨w.heap.size + 1, 0, none⟩ v2) v1 ∧ AnyN w ((W.setCell ⟨w.heap.size, 0, none⟩ v1).setCell ⟨w.heap.size + 1, 0, none⟩ v2) v2 ∧ Kept 0 0 w ((W.setCell ⟨w.heap.size, 0, none⟩ v1).setCell ⟨w.heap.size + 1, 0, none⟩ v2) :=
  ⟨⟨zs1, (((r1.set_other (p := ⟨w.heap.size, 0, none⟩) (.inl (show w.heap.size < lo1 by omega)) v1).set_other (p := ⟨w.heap.size + 1, 0, none⟩) (.inl (show w.heap.size + 1 < lo1 by omega)) v2).tight.wider (by omega) (Nat.le_refl _))⟩,
   ⟨zs2, (((r2.set_other (p := ⟨w.heap.size, 0, none⟩) (.inl (show w.heap.size < lo2 by omega)) v1).set_other (p := ⟨w.heap.size + 1, 0, none⟩) (.inl (show w.heap.size + 1 < lo2 by omega)) v2).tight.wider (by omega) (Nat.le_refl _))⟩,
   (k.setNew (p := ⟨w.heap.size, 0, none⟩) (Nat.le_refl _) v1).setNew (p := ⟨w.heap.size + 1, 0, none⟩) (by simp) v2⟩

theorem any_two' {w W : World} {v1 v2 : Value} {zs1 zs2 : List Int} {lo1 hi1 lo2 hi2 : Nat} (k : Kept 0 0 w W) (r1 : Row .i64 true lo1 hi1 W v1 zs1) (r2 : Row .i64 true lo2 hi2 W v2 zs2) (h1 : w.heap.size + 2 ≤ lo1) (h2 : w.heap.size + 2 ≤ lo2) :
    AnyN w ((W.setCell ⟨w.heap.size + 1, 0, none⟩ v2).setCell ⟨w.heap.size, 0, none⟩ v1) v1 ∧ AnyN w ((W.setCell ⟨w.heap.size + 1, 0, none⟩ v2).setCell ⟨w.heap.size, 0, none⟩ v1) v2 ∧ Kept 0 0 w ((W.setCell ⟨w.heap.size + 1, 0, none⟩ v2).setCell ⟨w.heap.size, 0, none⟩ v1) :=
  ⟨⟨zs1, (((r1.set_other (p := ⟨w.heap.size + 1, 0, none⟩) (.inl (show w.heap.size + 1 < lo1 by omega)) v2).set_other (p := ⟨w.heap.size, 0, none⟩) (.inl (show w.heap.size < lo1 by omega)) v1).tight.wider (by omega) (Nat.le_refl _))⟩,
   ⟨zs2, (((r2.set_other (p := ⟨w.heap.size + 1, 0, none⟩) (.inl (show w.heap.size + 1 < lo2 by omega)) v2).set_other (p := ⟨w.heap.size, 0, none⟩) (.inl (show w.heap.size < lo2 by omega)) v1).tight.wider (by omega) (Nat.le_refl _))⟩,
   (k.setNew (p := ⟨w.heap.size + 1, 0, none⟩) (by simp) v2).setNew (p := ⟨w.heap.size, 0, none⟩) (Nat.le_refl _) v1⟩
theorem two_cells {W : World} {R : Nat} {v1 v2 z1 z2 : Value} (c1 : W.cell? ⟨R, 0, none⟩ = some z1) (c2 : W.cell? ⟨R + 1, 0, none⟩ = some z2) :
    ((W.setCell ⟨R, 0, none⟩ v1).setCell ⟨R + 1, 0, none⟩ v2).cell? ⟨R, 0, none⟩ = some v1 ∧ ((W.setCell ⟨R, 0, none⟩ v1).setCell ⟨R + 1, 0, none⟩ v2).cell? ⟨R + 1, 0, none⟩ = some v2 :=
  ⟨cell_aside v2 (p := ⟨R, 0, none⟩) (r := ⟨R + 1, 0, none⟩) (by simp) (cell_on _ _ _ _ _ c1), cell_on _ _ _ _ _ (cell_aside v1 (p := ⟨R + 1, 0, none⟩) (r := ⟨R, 0, none⟩) (by simp) c2)⟩
theorem two_cells' {W : World} {R : Nat} {v1 v2 z1 z2 : Value} (c1 : W.cell? ⟨R, 0, none⟩ = some z1) (c2 : W.cell? ⟨R + 1, 0, none⟩ = some z2) :
    ((W.setCell ⟨R + 1, 0, none⟩ v2).setCell ⟨R, 0, none⟩ v1).cell? ⟨R, 0, none⟩ = some v1 ∧ ((W.setCell ⟨R + 1, 0, none⟩ v2).setCell ⟨R, 0, none⟩ v1).cell? ⟨R + 1, 0, none⟩ = some v2 :=
  ⟨cell_on _ _ _ _ _ (cell_aside v2 (p := ⟨R, 0, none⟩) (r := ⟨R + 1, 0, none⟩) (by simp) c1), cell_aside v1 (p := ⟨R + 1, 0, none⟩) (r := ⟨R, 0, none⟩) (by simp) (cell_on _ _ _ _ _ c2)⟩

end Go.Proofs.YtckolgaalkohlaaDoor
