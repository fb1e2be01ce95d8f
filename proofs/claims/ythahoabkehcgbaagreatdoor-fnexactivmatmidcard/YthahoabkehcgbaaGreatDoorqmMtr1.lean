/-
  MatTrace of the program.
-/
import Derived.Test.YthahoabkehcgbaaGreatDoorqmBX
import Derived.Test.YthahoabkehcgbaaGreatDoorqmDy7
namespace Go.Proofs.YthahoabkehcgbaaGreatDoor
open Go.RowKit
set_option linter.unusedVariables false
set_option maxRecDepth 8000
set_option linter.unusedSimpArgs false

/-- What a number is worth, in units of 2 to the power L. -/
def dv (L : Int) (d : DE) : Int := wval d.1 d.2.1 * 2 ^ (d.2.2 - L).toNat
theorem dok_nv {d : DE} (h : dOkE d = true) {L : Int} (hL : L ≤ -3000) : NV L (dv L d) d := by
  obtain ⟨h1, h2, h3, -, -⟩ := dok_parts h
  obtain ⟨-, -, lx, hx⟩ := wok_int h1
  exact ⟨⟨by omega, hx, rfl⟩, by omega, by omega⟩
theorem dv_lt {d : DE} (h : dOkE d = true) {A : Nat} (hA : A = 7600) : (dv (-3000) d).natAbs < 2 ^ A := by
  obtain ⟨h1, h2, h3, -, -⟩ := dok_parts h
  obtain ⟨-, -, lx, hx⟩ := wok_int h1
  exact lt_up (shl_lt _ (wval_lt hx.1)) (by omega)
theorem dok_len {s : Bool} {z : List Int} {y : Int} (h : dokB s z y = true) : z.length ≤ 100 ∧ Nrm z ∧ -3000 ≤ y ∧ y ≤ 3000 := by
  obtain ⟨h1, h2, h3, -, -⟩ := dok_parts h
  exact ⟨(wok_int h1).2.2.1, (wok_int h1).2.2.2, h2, h3⟩
/-- What is told of a number hangs on its worth alone. -/
theorem ans_V {L V : Int} {d : DE} (c : Bool) (h : IsV L V d) : ansDB c (wval d.1 d.2.1) d.2.2 = ansDB c V L ∧ ansDS c (wval d.1 d.2.1) d.2.2 = ansDS c V L ∧ ansDL c (wval d.1 d.2.1) d.2.2 = ansDL c V L ∧ ansDE c (wval d.1 d.2.1) d.2.2 = ansDE c V L := by
  obtain ⟨h1, h2, h3⟩ := h
  obtain ⟨a1, a2, a3, a4⟩ := ansD_shift c (wval d.1 d.2.1) d.2.2 (d.2.2 - L).toNat
  rw [h3, show d.2.2 - ((d.2.2 - L).toNat : Int) = L by omega] at a1 a2 a3 a4
  exact ⟨a1.symm, a2.symm, a3.symm, a4.symm⟩
end Go.Proofs.YthahoabkehcgbaaGreatDoor

