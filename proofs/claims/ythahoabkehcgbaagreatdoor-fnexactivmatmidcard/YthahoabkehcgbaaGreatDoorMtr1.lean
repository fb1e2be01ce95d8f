/-
  MatTrace of the program.
-/
import Derived.Test.YthahoabkehcgbaaGreatDoorBX
import Derived.Test.YthahoabkehcgbaaGreatDoorDy7
namespace Go.Proofs.YthahoabkehcgbaaGreatDoor
open Go.RowKit
set_option linter.unusedVariables false
set_option maxRecDepth 8000
set_option linter.unusedSimpArgs false

/-- What a number is worth, in units of 2 to the power L. -/
def dv (L : Int) (d : DE) : Int := wval d.1 d.2.1 * 2 ^ (d.2.2 - L).toNat
theorem dok_nv {d : DE} (h : dOkE d = true) {L : Int} (hL : L ≤ -3000) : NV L (dv L d) d := by
  obtain ⟨h1, h2, h3, -, -⟩ := dok_parts h
  obtain ⟨-, -, lx, hx⟩ := wok_int h1
  exact ⟨⟨by omega, hx, rfl⟩, by omega, by omega⟩
theorem dv_lt {d : DE} (h : dOkE d = true) {A : Nat} (hA : A = 7600) : (dv (-3000) d).natAbs < 2 ^ A := by
  obtain ⟨h1, h2, h3, -, -⟩ := dok_parts h
  obtain ⟨-, -, lx, hx⟩ := wok_int h1
  exact lt_up (shl_lt _ (wval_lt hx.1)) (by omega)
theorem psum_lt {f : Nat → Int} {A : Nat} : ∀ (m : Nat), (∀ q, q < m → (f q).natAbs < 2 ^ A) → (psum f m).natAbs < 2 ^ (A + m)
  | 0, _ => Nat.pow_pos (by decide)
  | m + 1, h => by
    have h1 := psum_lt m (fun q hq => h q (by omega))
    have h2 := lt_up (h m (by omega)) (show A ≤ A + m by omega)
    exact add_lt h1 h2
theorem dok_len {s : Bool} {z : List Int} {y : Int} (h : dokB s z y = true) : z.length ≤ 100 ∧ Nrm z ∧ -3000 ≤ y ∧ y ≤ 3000 := by
  obtain ⟨h1, h2, h3, -, -⟩ := dok_parts h
  exact ⟨(wok_int h1).2.2.1, (wok_int h1).2.2.2, h2, h3⟩
/-- What is told of a number hangs on its worth alone. -/
theorem ans_V {L V : Int} {d : DE} (c : Bool) (h : IsV L V d) : ansDB c (wval d.1 d.2.1) d.2.2 = ansDB c V L ∧ ansDS c (wval d.1 d.2.1) d.2.2 = ansDS c V L ∧ ansDL c (wval d.1 d.2.1) d.2.2 = ansDL c V L ∧ ansDE c (wval d.1 d.2.1) d.2.2 = ansDE c V L := by
  obtain ⟨h1, h2, h3⟩ := h
  obtain ⟨a1, a2, a3, a4⟩ := ansD_shift c (wval d.1 d.2.1) d.2.2 (d.2.2 - L).toNat
  rw [h3, show d.2.2 - ((d.2.2 - L).toNat : Int) = L by omega] at a1 a2 a3 a4
  exact ⟨a1.symm, a2.symm, a3.symm, a4.symm⟩
/-- The numbers on the way down. -/
def trF (k : Nat) (ds : List DE) (q : Nat) : Int := dv (-3000) (ds.getD (q * k + q) de0)
def trV (n : Int) (ds : List DE) : Int := psum (trF n.toNat ds) n.toNat
theorem trS_lt {k m : Nat} {ds : List DE} (h4 : k ≤ 4) (hm : m ≤ k) (U : ∀ p, p < k * k → dOkE (ds.getD p de0) = true) : (psum (trF k ds) m).natAbs < 2 ^ AA := by
  obtain ⟨A, hA⟩ : ∃ A : Nat, A = 7600 := ⟨_, rfl⟩
  exact lt_up (psum_lt m (fun q hq => dv_lt (U _ (place_lt (show q < k by omega) (show q < k by omega))) hA)) (by unfold AA; omega)
theorem Nums.dyp {b k p : Nat} {S : Nat → Prop} {w : World} {G : Nat → Nat} {F : Nat → DE} (h : Nums b S w k G F) (hp : p < k) : DyP (fun x => x < b) w (G p) (F p) := by
  obtain ⟨L, H, h1, -⟩ := h
  obtain ⟨⟨u, n, s, e, q1, q2, q3⟩, r1, -⟩ := h1 p hp
  exact ⟨u, n, s, e, by omega, fun i hi => by have := q3 i hi; omega⟩

end Go.Proofs.YthahoabkehcgbaaGreatDoor
