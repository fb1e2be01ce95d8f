/-
  The model's WholeDiv.
-/
import Derived.Test.YtpeaghaojfbbnaaWd1
import Derived.Test.YtpeaghaojfbbnaaBE
namespace Go.Proofs.Ytpeaghaojfbbnaa
open Go.RowKit
set_option linter.unusedVariables false
set_option maxRecDepth 8000
set_option linter.unusedSimpArgs false

/-- Is a quotient told? -/
def wvB (s1 s2 : Bool) (xs ys : List Int) : Bool := wokB s1 xs && wokB s2 ys && decide (ys.length ≠ 0) && decide ((wdQ s1 xs ys).length ≤ 100)
def wvS (s1 s2 : Bool) (xs ys : List Int) : Bool := wvB s1 s2 xs ys && ((s1 != s2) && decide (0 < (wdQ s1 xs ys).length))
def wvQ (s1 s2 : Bool) (xs ys : List Int) : List Int := if wvB s1 s2 xs ys = true then wdQ s1 xs ys else []
def wvR (s1 s2 : Bool) (xs ys : List Int) : List Int := if wvB s1 s2 xs ys = true then wdR s1 xs ys else []
theorem wv_no {s1 s2 : Bool} {xs ys : List Int} (h : wvB s1 s2 xs ys = false) : wvS s1 s2 xs ys = false ∧ wvQ s1 s2 xs ys = [] ∧ wvR s1 s2 xs ys = [] := by
  unfold wvS wvQ wvR
  rw [h]
  exact ⟨rfl, rfl, rfl⟩
theorem wv_yes {s1 s2 : Bool} {xs ys : List Int} (h : wvB s1 s2 xs ys = true) : wvS s1 s2 xs ys = ((s1 != s2) && decide (0 < (wdQ s1 xs ys).length)) ∧ wvQ s1 s2 xs ys = wdQ s1 xs ys ∧ wvR s1 s2 xs ys = wdR s1 xs ys := by
  unfold wvS wvQ wvR
  rw [h]
  exact ⟨rfl, rfl, rfl⟩
theorem nrm_pos {ys : List Int} (hn : Nrm ys) (h0 : ys.length ≠ 0) : 0 < val ys := by
  have e1 := nrm_pow hn (fun e => h0 (by rw [e]; rfl))
  have : (0 : Int) < 65536 ^ (ys.length - 1) := Int.pow_pos (by decide)
  omega

/-- Two boxes of two cells each are written. -/
theorem four_set {w4 : World} {p : Nat} {x0 x1 y0 y1 : Value} (u0 u1 z0 z1 : Value) (q0 : w4.cell? ⟨p, 0, none⟩ = some x0) (q1 : w4.cell? ⟨p, 1, none⟩ = some x1) (t0 : w4.cell? ⟨p + 1, 0, none⟩ = some y0) (t1 : w4.cell? ⟨p + 1, 1, none⟩ = some y1) :
    (((((w4.setCell ⟨p, 0, none⟩ u0).setCell ⟨p, 1, none⟩ u1).setCell ⟨p + 1, 0, none⟩ z0).setCell ⟨p + 1, 1, none⟩ z1)).cell? ⟨p, 0, none⟩ = some u0 ∧ (((((w4.setCell ⟨p, 0, none⟩ u0).setCell ⟨p, 1, none⟩ u1).setCell ⟨p + 1, 0, none⟩ z0).setCell ⟨p + 1, 1, none⟩ z1)).cell? ⟨p, 1, none⟩ = some u1 ∧ (((((w4.setCell ⟨p, 0, none⟩ u0).setCell ⟨p, 1, none⟩ u1).setCell ⟨p + 1, 0, none⟩ z0).setCell ⟨p + 1, 1, none⟩ z1)).cell? ⟨p + 1, 0, none⟩ = some z0 ∧ (((((w4.setCell ⟨p, 0, none⟩ u0).setCell ⟨p, 1, none⟩ u1).setCell ⟨p + 1, 0, none⟩ z0).setCell ⟨p + 1, 1, none⟩ z1)).cell? ⟨p + 1, 1, none⟩ = some z1 ∧ Kept p (p + 2) w4 (((((w4.setCell ⟨p, 0, none⟩ u0).setCell ⟨p, 1, none⟩ u1).setCell ⟨p + 1, 0, none⟩ z0).setCell ⟨p + 1, 1, none⟩ z1)) ∧ (((((w4.setCell ⟨p, 0, none⟩ u0).setCell ⟨p, 1, none⟩ u1).setCell ⟨p + 1, 0, none⟩ z0).setCell ⟨p + 1, 1, none⟩ z1)).heap.size = w4.heap.size := by
  have Q0 := cell_off _ _ _ 1 u1 _ (cell_on _ _ _ u0 _ q0) (show (0 : Nat) ≠ 1 by omega)
  have Q1 := cell_on _ _ _ u1 _ (cell_off _ _ _ 0 u0 _ q1 (show (1 : Nat) ≠ 0 by omega))
  have T0 : ((w4.setCell ⟨p, 0, none⟩ u0).setCell ⟨p, 1, none⟩ u1).cell? ⟨p + 1, 0, none⟩ = some y0 := cell_aside _ (by dsimp only; omega) (cell_aside _ (by dsimp only; omega) t0)
  have T1 : ((w4.setCell ⟨p, 0, none⟩ u0).setCell ⟨p, 1, none⟩ u1).cell? ⟨p + 1, 1, none⟩ = some y1 := cell_aside _ (by dsimp only; omega) (cell_aside _ (by dsimp only; omega) t1)
  refine ⟨cell_aside _ (by dsimp only; omega) (cell_aside _ (by dsimp only; omega) Q0), cell_aside _ (by dsimp only; omega) (cell_aside _ (by dsimp only; omega) Q1), cell_off _ _ _ 1 z1 _ (cell_on _ _ _ z0 _ T0) (show (0 : Nat) ≠ 1 by omega), cell_on _ _ _ z1 _ (cell_off _ _ _ 0 z0 _ T1 (show (1 : Nat) ≠ 0 by omega)), ?_, by rw [size_set, size_set, size_set, size_set]⟩
  exact ((((Kept.refl _ _ _).setCell (p := ⟨p, 0, none⟩) (by dsimp only; omega) (by dsimp only; omega) _).setCell (p := ⟨p, 1, none⟩) (by dsimp only; omega) (by dsimp only; omega) _).setCell (p := ⟨p + 1, 0, none⟩) (by dsimp only; omega) (by dsimp only; omega) _).setCell (p := ⟨p + 1, 1, none⟩) (by dsimp only; omega) (by dsimp only; omega) _

end Go.Proofs.Ytpeaghaojfbbnaa
