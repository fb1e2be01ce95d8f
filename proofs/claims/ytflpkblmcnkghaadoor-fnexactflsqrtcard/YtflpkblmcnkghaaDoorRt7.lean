/-
  The cuts of a root, and what stands in for it.
-/
import Derived.Test.YtflpkblmcnkghaaDoorStd
import Derived.Test.YtflpkblmcnkghaaDoorRt0
namespace Go.Proofs.YtflpkblmcnkghaaDoor
open Go.RowKit
set_option linter.unusedVariables false

theorem rt_cuts (V : Nat) (x : Int) : Cuts (fun P => rtN V (x - 2 * P)) (fun P => rtL V (x - 2 * P)) := by
  intro P
  have h := rt_step V (x - 2 * P)
  rw [show x - 2 * P + 2 = x - 2 * (P - 1) by omega] at h
  exact h

theorem rt_std (V : Nat) (x P : Int) : rtQ V (x - 2 * P) = stdV (fun P => rtN V (x - 2 * P)) (fun P => rtL V (x - 2 * P)) P := rfl

theorem root_ge {n j : Nat} (h : 2 ^ (2 * j) ≤ n) : 2 ^ j ≤ rootN n := by
  obtain ⟨a, b⟩ := root_sq n
  rcases Nat.lt_or_ge (rootN n) (2 ^ j) with h1 | h1
  · exfalso
    have h2 := Nat.mul_le_mul (show rootN n + 1 ≤ 2 ^ j by omega) (show rootN n + 1 ≤ 2 ^ j by omega)
    rw [← Nat.pow_add, show j + j = 2 * j by omega] at h2
    omega
  · exact h1

theorem bits_of_ge {n j : Nat} (h : 2 ^ j ≤ n) : j + 1 ≤ bitsN n := by
  rcases Nat.lt_or_ge (bitsN n) (j + 1) with h1 | h1
  · exfalso
    have := bits_lt n
    have h2 := Nat.pow_le_pow_right (n := 2) (by decide) (show bitsN n ≤ j by omega)
    omega
  · exact h1

/-- a root that is cut so far below its top has bits enough. -/
theorem rt_bits {V : Nat} (hV : V ≠ 0) {k : Int} {n j : Nat} (h : (bitsN V : Int) + k = (n : Int) + 1) (hj : 2 * j ≤ n) : j + 1 ≤ bitsN (rtN V k) := by
  refine bits_of_ge ?_
  unfold rtN
  refine root_ge ?_
  exact Nat.le_trans (Nat.pow_le_pow_right (by decide) hj) (scN_ge hV n h)

end Go.Proofs.YtflpkblmcnkghaaDoor

