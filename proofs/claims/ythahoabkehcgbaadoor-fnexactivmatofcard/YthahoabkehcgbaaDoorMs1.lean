/-
  The program's toldMat over numbers that a function tells one by one, or refuses.
-/
import Derived.Test.YthahoabkehcgbaaDoorBX
import Derived.Test.YthahoabkehcgbaaDoorIdmul
namespace Go.Proofs.YthahoabkehcgbaaDoor
open Go.RowKit
set_option linter.unusedVariables false
set_option maxRecDepth 8000
set_option linter.unusedSimpArgs false

/-- All are told. -/
def allB (B : Nat → Bool) (n : Nat) : Bool := (List.range n).all B
theorem allB_no {B : Nat → Bool} {n j : Nat} (hj : j < n) (h : B j = false) : allB B n = false := by
  unfold allB
  rw [← Bool.not_eq_true, List.all_eq_true]
  intro h2
  have := h2 j (List.mem_range.2 hj)
  rw [this] at h; cases h
theorem allB_yes {B : Nat → Bool} {n : Nat} (h : ∀ i, i < n → B i = true) : allB B n = true := by
  unfold allB
  rw [List.all_eq_true]
  exact fun i hi => h i (List.mem_range.1 hi)
/-- What is told, or nothing. -/
def telL (E : Nat → DE) (B : Nat → Bool) (n : Nat) : List DE := if allB B n = true then (List.range n).map E else []
def telN (B : Nat → Bool) (n : Nat) (m : Int) : Int := if allB B n = true then m else 0
theorem DysO.void (lo hi : Nat) (w : World) : DysO lo hi w (.slice none 0 0) [] := ⟨none, 0, rfl, Nat.le_refl _, Nat.zero_le _, fun h => absurd rfl h⟩
theorem map_at (E : Nat → DE) (n i : Nat) (h : i < n) : ((List.range n).map E).getD i de0 = E i := by simp [List.getD, h]

theorem Fill.kept {lo g n j : Nat} {ds : List DE} {w w' : World} (h : Fill lo g n ds j w) (k : Kept 0 0 w w') : Fill lo g n ds j w' := by
  obtain ⟨hlt, ⟨b, hb, hmono⟩, hcell, hloose⟩ := h
  have hs := k.size
  exact ⟨by omega, ⟨b, fun i hi => ⟨fun e => by have := (hb i hi).1 e; omega, (hb i hi).2.keptE k (by omega) (by omega)⟩, hmono⟩, fun k' hk' => by obtain ⟨x, hx⟩ := hcell k' hk'; exact ⟨x, k.cell0 hx⟩, fun k' hk' => k.loose0 (a := ⟨g, k', none⟩) hlt (hloose k' hk')⟩

end Go.Proofs.YthahoabkehcgbaaDoor
