/-
  The model's l8new and l8fits; a matrix as a law's answer.
-/
import Derived.Test.YthahoabkehcgbaaDoorBX
import Derived.Test.YthahoabkehcgbaaDoorBW
import Derived.Test.YthahoabkehcgbaaDoorMs1
import Derived.Test.YthahoabkehcgbaaDoorBJ
import Derived.Test.YthahoabkehcgbaaDoorDys4
namespace Go.Proofs.YthahoabkehcgbaaDoor
open Go.RowKit
set_option linter.unusedVariables false
set_option maxRecDepth 8000
set_option linter.unusedSimpArgs false

theorem Fill.keptW {lo g n l h : Nat} {ds : List DE} {w w' : World} (f : Fill lo g n ds 0 w) (k : Kept l h w w') (hg : g < l ∨ h ≤ g) : Fill lo g n ds 0 w' := by
  have hb := k.block g f.lt hg
  exact ⟨Nat.lt_of_lt_of_le f.lt k.size, ⟨fun _ => 0, fun i hi => by omega, fun i i' _ hi => by omega⟩, fun q hq => by obtain ⟨x, hx⟩ := f.cell q hq; exact ⟨x, (World.cell?_of_block (w := w) (a := ⟨g, q, none⟩) hb).trans hx⟩, fun q hq => (World.frozen?_of_block (w := w) (a := ⟨g, q, none⟩) hb).trans (f.loose q hq)⟩

def fitB (m : Int) (ds : List DE) : Bool := mokB m ds
def fitN (m : Int) (ds : List DE) : Int := if mokB m ds = true then m else 0
def fitL (m : Int) (ds : List DE) : List DE := if mokB m ds = true then ds else []
theorem fit_yes {m : Int} {ds : List DE} (h : mokB m ds = true) : fitB m ds = true ∧ fitN m ds = m ∧ fitL m ds = ds := by
  unfold fitB fitN fitL; rw [if_pos h, if_pos h]; exact ⟨h, rfl, rfl⟩
theorem fit_no {m : Int} {ds : List DE} (h : mokB m ds = false) : fitB m ds = false ∧ fitN m ds = 0 ∧ fitL m ds = [] := by
  unfold fitB fitN fitL; rw [if_neg (by rw [h]; simp), if_neg (by rw [h]; simp)]; exact ⟨h, rfl, rfl⟩

theorem law_setM {cur w9 : World} {X : Nat} {v z z' : Value} {zs : List DE} {b hi : Nat} (s : Int) (k : Kept 0 0 cur w9) (c : w9.cell? ⟨X, 0, none⟩ = some z) (c' : w9.cell? ⟨X, 1, none⟩ = some z') (r : DysO b hi w9 v zs) (hX : cur.heap.size ≤ X) (hb : X < b ∨ hi ≤ X) (hc : cur.heap.size ≤ b) (hh : hi ≤ w9.heap.size) :
    ((w9.setCell ⟨X, 0, none⟩ (.int .i64 s)).setCell ⟨X, 1, none⟩ v).cell? ⟨X, 0, none⟩ = some (.int .i64 s) ∧ ((w9.setCell ⟨X, 0, none⟩ (.int .i64 s)).setCell ⟨X, 1, none⟩ v).cell? ⟨X, 1, none⟩ = some v ∧ DysO cur.heap.size ((w9.setCell ⟨X, 0, none⟩ (.int .i64 s)).setCell ⟨X, 1, none⟩ v).heap.size ((w9.setCell ⟨X, 0, none⟩ (.int .i64 s)).setCell ⟨X, 1, none⟩ v) v zs ∧ cur.heap.size ≤ X ∧ X < ((w9.setCell ⟨X, 0, none⟩ (.int .i64 s)).setCell ⟨X, 1, none⟩ v).heap.size ∧ Kept 0 0 cur ((w9.setCell ⟨X, 0, none⟩ (.int .i64 s)).setCell ⟨X, 1, none⟩ v) := by
  have e1 : (w9.setCell ⟨X, 0, none⟩ (.int .i64 s)).cell? ⟨X, 0, none⟩ = some (.int .i64 s) := cell_on _ _ _ _ _ c
  have e2 := cell_set w9 X 1 0 (.int .i64 s) z' c'
  rw [if_neg (by decide)] at e2
  have e3 := cell_set _ X 0 1 v _ e1
  rw [if_neg (by decide)] at e3
  have e4 := cell_set _ X 1 1 v _ e2
  rw [if_pos rfl] at e4
  have ks : Kept X (X + 1) w9 ((w9.setCell ⟨X, 0, none⟩ (.int .i64 s)).setCell ⟨X, 1, none⟩ v) :=
    ((Kept.refl _ _ _).setCell (p := ⟨X, 0, none⟩) (Nat.le_refl _) (Nat.lt_succ_self _) _).setCell (p := ⟨X, 1, none⟩) (Nat.le_refl _) (Nat.lt_succ_self _) _
  have hsz : ((w9.setCell ⟨X, 0, none⟩ (.int .i64 s)).setCell ⟨X, 1, none⟩ v).heap.size = w9.heap.size := by rw [size_set, size_set]
  exact ⟨e3, e4, (r.kept ks (by omega)).wider hc (by rw [hsz]; exact hh), hX, by have := World.block_lt_of_cell? _ _ c; simpa [World.setCell] using this, (k.setNew (p := ⟨X, 0, none⟩) hX _).setNew (p := ⟨X, 1, none⟩) hX v⟩

theorem limT_le (ds : List DE) (h : ∀ i, i < ds.length → (ds.getD i de0).2.1.length ≤ 100) : ∀ j, j ≤ ds.length → limT ds j ≤ 100 * j
  | 0, _ => Nat.le_refl _
  | j + 1, hj => by
    have h1 := limT_le ds h j (by omega)
    have h2 := h j (by omega)
    show limT ds j + _ ≤ _
    omega
theorem mok_sz {n : Int} {ds : List DE} (h : mokB n ds = true) : szT ds ≤ 2000 := by
  obtain ⟨u1, u2, u3, U⟩ := mok_partsA h
  obtain ⟨k, rfl⟩ := Int.eq_ofNat_of_zero_le (show 0 ≤ n by omega)
  have hlen : ds.length = k * k := by rw [← Int.natCast_mul] at u3; omega
  have h16 : k * k ≤ 4 * 4 := Nat.mul_le_mul (by omega) (by omega)
  have h1 := limT_le ds (fun i hi => by
    obtain ⟨w1', -, -, -, -⟩ := dok_parts (U i hi)
    obtain ⟨-, -, lx, hx⟩ := wok_int w1'
    omega) ds.length (Nat.le_refl _)
  unfold szT
  omega
end Go.Proofs.YthahoabkehcgbaaDoor
