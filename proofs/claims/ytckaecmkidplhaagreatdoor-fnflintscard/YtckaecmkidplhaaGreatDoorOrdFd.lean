/-
  Floats that are numbers, as dyadic ones.
-/
import Derived.Test.YtckaecmkidplhaaGreatDoorFl13
import Derived.Test.YtckaecmkidplhaaGreatDoorFlNum
namespace Go.Proofs.YtckaecmkidplhaaGreatDoor
open Go.RowKit
set_option linter.unusedVariables false

theorem fdy_ways {k : Int} {n : Bool} {m e : Int} (h : fdyB k n m e = true) : flok k n m e = true ∧ k ≠ 3 ∧ k ≠ 2 := by
  unfold fdyB at h
  simp only [Bool.and_eq_true, Bool.or_eq_true, beq_iff_eq] at h
  exact ⟨h.1, by omega, by omega⟩
theorem fin_rg {k : Int} {n : Bool} {m e : Int} (f1 : flok k n m e = true) (f2 : k ≠ 3) (f3 : k ≠ 2) : (fM k n m).natAbs < 2 ^ 64 ∧ -1074 ≤ e ∧ e ≤ 971 := by
  have p64 : (2 : Nat) ^ 64 = 18446744073709551616 := by decide
  rw [p64]
  rcases flok_ways f1 with ⟨rfl, a1, a2, a3, a4, -⟩ | ⟨rfl, rfl, rfl⟩ | ⟨rfl, rfl, rfl⟩ | ⟨rfl, rfl, rfl, rfl⟩
  · unfold fM
    cases n <;> simp <;> omega
  · unfold fM
    simp
  · exact absurd rfl f3
  · exact absurd rfl f2
theorem fdy_told {k : Int} {n : Bool} {m e : Int} (h : fdyB k n m e = true) : ansDB (fdyB k n m e) (fM k n m) e = true ∧ ansDS (fdyB k n m e) (fM k n m) e = wsg (fM k n m) ∧ ansDL (fdyB k n m e) (fM k n m) e = dlm (fM k n m) ∧ ansDE (fdyB k n m e) (fM k n m) e = dex (fM k n m) e ∧ dokB (wsg (fM k n m)) (dlm (fM k n m)) (dex (fM k n m) e) = true := by
  obtain ⟨h1, h2, h3⟩ := fdy_ways h
  obtain ⟨a8, a9, a10⟩ := fin_rg h1 h2 h3
  obtain ⟨e1, e2, e3, e4⟩ := ans_yes (c := fdyB k n m e) (m := fM k n m) (x := e) h a8 (by omega) (by omega)
  exact ⟨e4, e1, e2, e3, dok_told' _ _ a8 (by omega) (by omega)⟩

end Go.Proofs.YtckaecmkidplhaaGreatDoor

