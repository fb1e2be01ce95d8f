/-
  What sums of products are, limb by limb, before and after what is above a limb is carried on.
-/
import Derived.Test.YtdhponfpikclhaaNat9
namespace Go.Proofs.Ytdhponfpikclhaa
open Go.RowKit
set_option linter.unusedVariables false

/-- Every number of the list lies in 0 .. B. -/
def Bnd (B : Int) (zs : List Int) : Prop := ∀ k, 0 ≤ zs.getD k 0 ∧ zs.getD k 0 ≤ B
theorem getD_set_ne (zs : List Int) (i j : Nat) (z : Int) (h : i ≠ j) : (zs.set j z).getD i 0 = zs.getD i 0 := by
  simp only [List.getD, List.getElem?_set]
  rw [if_neg (fun e => h e.symm)]
theorem getD_set_eq (zs : List Int) (i : Nat) (z : Int) (h : i < zs.length) : (zs.set i z).getD i 0 = z := by rw [getD_set _ _ _ _ h, if_pos rfl]
theorem Bnd.zeros (n : Nat) : Bnd 0 (List.replicate n 0) := fun k => by
  simp only [List.getD, List.getElem?_replicate]
  split <;> simp
theorem Bnd.set {B B' : Int} {zs : List Int} (h : Bnd B zs) (hB : B ≤ B') (j : Nat) (hj : j < zs.length) {z : Int} (h0 : 0 ≤ z) (h1 : z ≤ B') : Bnd B' (zs.set j z) := fun k => by
  by_cases e : k = j
  · subst e; rw [getD_set_eq _ _ _ hj]; exact ⟨h0, h1⟩
  · rw [getD_set_ne _ _ _ _ e]; have := h k; omega
theorem Bnd.more {B B' : Int} {zs : List Int} (h : Bnd B zs) (hB : B ≤ B') : Bnd B' zs := fun k => by have := h k; omega
theorem lim_of_at {zs : List Int} (h : ∀ q, q < zs.length → 0 ≤ zs.getD q 0 ∧ zs.getD q 0 ≤ 65535) : Lim zs := fun z hz => by
  obtain ⟨i, hi, rfl⟩ := List.getElem_of_mem hz
  have := h i hi
  simpa [List.getD, hi] using this
theorem msum_step (ss ys : List Int) (i k : Nat) (hik : i + k < ss.length) (va A : Int) (hk : k < ys.length) (h : val ss = A + 65536 ^ i * (va * val (ys.take k))) :
    val (ss.set (i + k) (ss.getD (i + k) 0 + va * ys.getD k 0)) = A + 65536 ^ i * (va * val (ys.take (k + 1))) := by
  have e : ss.getD (i + k) 0 + va * ys.getD k 0 - ss.getD (i + k) 0 = va * ys.getD k 0 := by omega
  rw [val_set _ _ _ hik, e, h, val_take_succ ys k hk, Int.mul_add va, Int.mul_add, Int.pow_add, Int.mul_left_comm va, Int.mul_assoc (65536 ^ i), Int.add_assoc]
theorem carry_step (zs : List Int) (i : Nat) (hi : i < zs.length) (c S z : Int) (hz : zs.getD i 0 = z) (h : val zs + 65536 ^ i * c = S) :
    val (zs.set i ((z + c) % 65536)) + 65536 ^ (i + 1) * ((z + c) / 65536) = S := by
  rw [val_set _ _ _ hi, hz, ← h, Int.pow_succ]
  have e : (z + c) % 65536 - z + 65536 * ((z + c) / 65536) = c := by omega
  have key : ∀ P A B : Int, P * A + P * 65536 * B = P * (A + 65536 * B) := fun P A B => by rw [Int.mul_add, Int.mul_assoc]
  rw [Int.add_assoc, key, e]
theorem mul_lt_pow {xs ys : List Int} (hx : Lim xs) (hy : Lim ys) : val xs * val ys < 65536 ^ (xs.length + ys.length) := by
  have := take_mul_lt hx hy xs.length (Nat.le_refl _)
  rwa [List.take_length] at this
theorem carry_end {zs : List Int} {c P : Int} (h : Lim zs) (hc : 0 ≤ c) (hP : P < 65536 ^ zs.length) (e : val zs + 65536 ^ zs.length * c = P) : val zs = P := by
  have h0 := val_nonneg h
  have hp : (0 : Int) < 65536 ^ zs.length := Int.pow_pos (by decide)
  rcases Int.lt_or_le 0 c with h1 | h1
  · have : (65536 : Int) ^ zs.length * 1 ≤ 65536 ^ zs.length * c := Int.mul_le_mul_of_nonneg_left (by omega) (by omega)
    omega
  · have : c = 0 := by omega
    subst this
    omega

end Go.Proofs.Ytdhponfpikclhaa
