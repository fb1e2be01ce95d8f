/-
  A matrix as a law's answer: its cells, its size; MatScale's own bound.
-/
import Derived.Test.YtagaofpkfpfilaaDoorMs4
import Derived.Test.YtagaofpkfpfilaaDoorBJ
namespace Go.Proofs.YtagaofpkfpfilaaDoor
open Go.RowKit
set_option linter.unusedVariables false
set_option maxRecDepth 8000
set_option linter.unusedSimpArgs false

theorem law_setM {cur w9 : World} {X : Nat} {v z z' : Value} {zs : List DE} {b hi : Nat} (s : Int) (k : Kept 0 0 cur w9) (c : w9.cell? ⟨X, 0, none⟩ = some z) (c' : w9.cell? ⟨X, 1, none⟩ = some z') (r : DysO b hi w9 v zs) (hX : cur.heap.size ≤ X) (hb : X < b ∨ hi ≤ X) (hc : cur.heap.size ≤ b) (hh : hi ≤ w9.heap.size) :
    ((w9.setCell ⟨X, 0, none⟩ (.int .i64 s)).setCell ⟨X, 1, none⟩ v).cell? ⟨X, 0, none⟩ = some (.int .i64 s) ∧ ((w9.setCell ⟨X, 0, none⟩ (.int .i64 s)).setCell ⟨X, 1, none⟩ v).cell? ⟨X, 1, none⟩ = some v ∧ DysO cur.heap.size ((w9.setCell ⟨X, 0, none⟩ (.int .i64 s)).setCell ⟨X, 1, none⟩ v).heap.size ((w9.setCell ⟨X, 0, none⟩ (.int .i64 s)).setCell ⟨X, 1, none⟩ v) v zs ∧ cur.heap.size ≤ X ∧ X < ((w9.setCell ⟨X, 0, none⟩ (.int .i64 s)).setCell ⟨X, 1, none⟩ v).heap.size ∧ Kept 0 0 cur ((w9.setCell ⟨X, 0, none⟩ (.int .i64 s)).setCell ⟨X, 1, none⟩ v) := by
  have e1 : (w9.setCell ⟨X, 0, none⟩ (.int .i64 s)).cell? ⟨X, 0, none⟩ = some (.int .i64 s) := cell_on _ _ _ _ _ c
  have e2 := cell_set w9 X 1 0 (.int .i64 s) z' c'
  rw [if_neg (by decide)] at e2
  have e3 := cell_set _ X 0 1 v _ e1
  rw [if_neg (by decide)] at e3
  have e4 := cell_set _ X 1 1 v _ e2
  rw [if_pos rfl] at e4
  have ks : Kept X (X + 1) w9 ((w9.setCell ⟨X, 0, none⟩ (.int .i64 s)).setCell ⟨X, 1, none⟩ v) :=
    ((Kept.refl _ _ _).setCell (p := ⟨X, 0, none⟩) (Nat.le_refl _) (Nat.lt_succ_self _) _).setCell (p := ⟨X, 1, none⟩) (Nat.le_refl _) (Nat.lt_succ_self _) _
  have hsz : ((w9.setCell ⟨X, 0, none⟩ (.int .i64 s)).setCell ⟨X, 1, none⟩ v).heap.size = w9.heap.size := by rw [size_set, size_set]
  exact ⟨e3, e4, (r.kept ks (by omega)).wider hc (by rw [hsz]; exact hh), hX, by have := World.block_lt_of_cell? _ _ c; simpa [World.setCell] using this, (k.setNew (p := ⟨X, 0, none⟩) hX _).setNew (p := ⟨X, 1, none⟩) hX v⟩

theorem in_spec_MatScale : ∀ (w : World) (args : Array Value), (callFunc 22 args).run Tryd.prog w = .ok (.enter 22 args) w := enters Tryd.func22 (by decide) (fun h => by cases h)
theorem in_impl_MatScale : ∀ (w : World) (args : Array Value), (callFunc 24 args).run Tryd.prog w = .ok (.enter 24 args) w := enters Tryd.func24 (by decide) (fun h => by cases h)

theorem limT_le (ds : List DE) (h : ∀ i, i < ds.length → (ds.getD i de0).2.1.length ≤ 100) : ∀ j, j ≤ ds.length → limT ds j ≤ 100 * j
  | 0, _ => Nat.le_refl _
  | j + 1, hj => by
    have h1 := limT_le ds h j (by omega)
    have h2 := h j (by omega)
    show limT ds j + _ ≤ _
    omega
theorem mok_sz {n : Int} {ds : List DE} (h : mokB n ds = true) : szT ds ≤ 2000 := by
  obtain ⟨u1, u2, u3, U⟩ := mok_partsA h
  obtain ⟨k, rfl⟩ := Int.eq_ofNat_of_zero_le (show 0 ≤ n by omega)
  have hlen : ds.length = k * k := by rw [← Int.natCast_mul] at u3; omega
  have h16 : k * k ≤ 4 * 4 := Nat.mul_le_mul (by omega) (by omega)
  have h1 := limT_le ds (fun i hi => by
    obtain ⟨w1', -, -, -, -⟩ := dok_parts (U i hi)
    obtain ⟨-, -, lx, hx⟩ := wok_int w1'
    omega) ds.length (Nat.le_refl _)
  unfold szT
  omega
theorem scl_sz (n : Int) (ds : List DE) (d : DE) : szT (sclL n ds d) ≤ 2000 := by
  cases hb : sclB n ds d
  · rw [(scl_no hb).1]; decide
  have hb' := hb
  unfold sclB at hb'
  simp only [Bool.and_eq_true] at hb'
  obtain ⟨t1, t2⟩ := scl_fit hb'.1 hb'.2.1
  rw [t2 hb]
  exact mok_sz (t1.symm.trans hb)

end Go.Proofs.YtagaofpkfpfilaaDoor
