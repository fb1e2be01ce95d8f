/-
  The contract of the model's l2shr.
-/
import Derived.Test.YtfikfmkhmojpfaaBE
namespace Go.Proofs.Ytfikfmkhmojpfaa
open Go.RowKit
set_option linter.unusedVariables false
set_option maxRecDepth 8000

theorem Row.drop {k : IntKind} {bw : Bool} {lo hi : Nat} {w : World} {g off n c : Nat} {zs : List Int} (r : Row k bw lo hi w (.slice (some ⟨g, off, none⟩) n c) zs) (q : Nat) (hq : q < n) :
    Row k bw lo hi w (.slice (some ⟨g, off + q, none⟩) (n - q) (c - q)) (zs.drop q) := by
  obtain ⟨a, c', e, q1, q2, q3⟩ := r
  simp only [Value.slice.injEq] at e
  obtain ⟨rfl, rfl, rfl⟩ := e
  obtain ⟨g', o', e', h1, h2, h3, h4, h5⟩ := q3 (by intro e; simp [e] at hq)
  cases e'
  refine ⟨some ⟨g, off + q, none⟩, c - q, by simp, by simp; omega, by omega, fun _ => ⟨g, off + q, rfl, h1, h2, h3, fun i hi => ?_, fun hb i hi => ?_⟩⟩
  · simp at hi
    have := h4 (q + i) (by omega)
    rw [Nat.add_assoc, this]; simp [List.getD]
  · simp at hi
    have := h5 hb (q + i) (by omega)
    rw [Nat.add_assoc, this]
theorem shr_val {xs : List Int} (h : Lim xs) (q s : Nat) (hq : q ≤ xs.length) : (val (xs.drop q) / ((2 ^ s : Nat) : Int)).toNat = (val xs).toNat / 2 ^ (16 * q + s) := by
  have e := val_take_drop xs q hq
  have h1 := val_lt (h.take q)
  have h2 := val_nonneg (h.take q)
  have h3 := val_nonneg (h.drop q)
  rw [List.length_take, Nat.min_eq_left hq] at h1
  obtain ⟨u, eu⟩ : ∃ u : Nat, val (xs.take q) = u := ⟨(val (xs.take q)).toNat, by omega⟩
  obtain ⟨r, er⟩ : ∃ r : Nat, val (xs.drop q) = r := ⟨(val (xs.drop q)).toNat, by omega⟩
  rw [eu, er, pow_limb] at e
  rw [eu, pow_limb] at h1
  have h1' : u < 2 ^ (16 * q) := by omega
  have e' : (val xs).toNat = u + 2 ^ (16 * q) * r := by
    have : val xs = ((u + 2 ^ (16 * q) * r : Nat) : Int) := by rw [e]; simp
    rw [this]; rfl
  rw [er, e', Nat.pow_add, ← Nat.div_div_eq_div_mul, Nat.add_mul_div_left _ _ (Nat.pow_pos (by decide)), Nat.div_eq_of_lt h1', Nat.zero_add, ← Int.natCast_ediv, Int.toNat_natCast]

end Go.Proofs.Ytfikfmkhmojpfaa
