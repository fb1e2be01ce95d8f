/-
  Steps of sums, differences, products and short quotients of limbs, as plain arithmetic.
-/
import Derived.Test.YtdhponfpikclhaaNum
namespace Go.Proofs.Ytdhponfpikclhaa
set_option linter.unusedVariables false

theorem val_drop (zs : List Int) (i : Nat) : val (zs.drop i) = zs.getD i 0 + 65536 * val (zs.drop (i + 1)) := by
  by_cases h : i < zs.length
  · rw [List.drop_eq_getElem_cons h]
    simp [val, List.getD, h]
  · rw [List.drop_eq_nil_of_le (by omega), List.drop_eq_nil_of_le (by omega)]
    simp [val, List.getD, List.getElem?_eq_none (Nat.le_of_not_lt h)]
theorem val_snoc (zs : List Int) (x : Int) : val (zs ++ [x]) = val zs + 65536 ^ zs.length * x := by
  rw [val_append]; simp [val]
theorem Lim.snoc {zs : List Int} (h : Lim zs) {x : Int} (h0 : 0 ≤ x) (h1 : x ≤ 65535) : Lim (zs ++ [x]) := fun z hz => by
  rcases List.mem_append.1 hz with a | a
  · exact h z a
  · simp at a; subst a; exact ⟨h0, h1⟩
theorem Lim.at {zs : List Int} (h : Lim zs) (i : Nat) : 0 ≤ zs.getD i 0 ∧ zs.getD i 0 ≤ 65535 := by
  by_cases hi : i < zs.length
  · have : zs.getD i 0 = zs[i] := by simp [List.getD, hi]
    rw [this]; exact h _ (List.getElem_mem hi)
  · have : zs.getD i 0 = 0 := by simp [List.getD, List.getElem?_eq_none (Nat.le_of_not_lt hi)]
    rw [this]; omega
theorem Lim.set {zs : List Int} (h : Lim zs) (i : Nat) {x : Int} (h0 : 0 ≤ x) (h1 : x ≤ 65535) : Lim (zs.set i x) := fun z hz => by
  rcases List.mem_or_eq_of_mem_set hz with a | a
  · exact h z a
  · subst a; exact ⟨h0, h1⟩
theorem Lim.zeros (n : Nat) : Lim (List.replicate n 0) := fun z hz => by have := List.eq_of_mem_replicate hz; omega
theorem Lim.nil : Lim [] := fun z hz => by simp at hz
theorem val_set (zs : List Int) (i : Nat) (x : Int) (h : i < zs.length) : val (zs.set i x) = val zs + 65536 ^ i * (x - zs.getD i 0) := by
  induction zs generalizing i with
  | nil => simp at h
  | cons y t ih =>
    cases i with
    | zero => simp [val]; omega
    | succ i =>
      have hi : i < t.length := by simpa using h
      simp only [List.set_cons_succ, val, ih i hi]
      have e : (y :: t).getD (i + 1) 0 = t.getD i 0 := by simp [List.getD]
      rw [e, Int.pow_succ, Int.mul_add, Int.mul_comm (65536 ^ i) 65536, Int.mul_assoc, Int.add_assoc]

/-- One limb of a sum. -/
theorem add_step (out : List Int) (i : Nat) (hi : out.length = i) (c A B a b A' B' S : Int) (hA : A = a + 65536 * A') (hB : B = b + 65536 * B') (h : val out + 65536 ^ i * (c + A + B) = S) :
    val (out ++ [(c + a + b) % 65536]) + 65536 ^ (i + 1) * ((c + a + b) / 65536 + A' + B') = S := by
  rw [val_snoc, hi, ← h, Int.pow_succ]
  have e : c + A + B = (c + a + b) % 65536 + 65536 * ((c + a + b) / 65536 + A' + B') := by omega
  generalize (c + a + b) / 65536 + A' + B' = q at *
  rw [e, Int.mul_add, Int.mul_assoc, Int.add_assoc]
/-- One limb of a difference; q is 1 where a limb is borrowed. -/
theorem sub_step (out : List Int) (i : Nat) (hi : out.length = i) (c A B a b A' B' S x q : Int) (hA : A = a + 65536 * A') (hB : B = b + 65536 * B') (hx : x = a - c - b + 65536 * q) (h : val out + 65536 ^ i * (A - B - c) = S) :
    val (out ++ [x]) + 65536 ^ (i + 1) * (A' - B' - q) = S := by
  rw [val_snoc, hi, ← h, Int.pow_succ]
  have e : A - B - c = x + 65536 * (A' - B' - q) := by omega
  generalize A' - B' - q = u at *
  rw [e, Int.mul_add, Int.mul_assoc, Int.add_assoc]
/-- One limb of a row of a product. -/
theorem mul_step (out : List Int) (j : Nat) (hj : j < out.length) (c a b o T : Int) (ho : out.getD j 0 = o) (h : val out + 65536 ^ j * c = T) :
    val (out.set j ((o + a * b + c) % 65536)) + 65536 ^ (j + 1) * ((o + a * b + c) / 65536) = T + 65536 ^ j * (a * b) := by
  rw [val_set _ _ _ hj, ho, ← h, Int.pow_succ]
  have e : (o + a * b + c) % 65536 - o + 65536 * ((o + a * b + c) / 65536) = c + a * b := by
    generalize a * b = m; omega
  have e2 : 65536 ^ j * ((o + a * b + c) % 65536 - o) + 65536 ^ j * 65536 * ((o + a * b + c) / 65536) = 65536 ^ j * (c + a * b) := by
    rw [Int.mul_assoc, ← Int.mul_add, e]
  rw [Int.mul_add] at e2
  generalize (65536 : Int) ^ j * (a * b) = m at *
  omega
/-- One limb of a short quotient, from the high end on. -/
theorem small_step (A a d r Q A' : Int) (hd : 0 < d) (hA : A = a + 65536 * A') (h : A' = Q * d + r) (h0 : 0 ≤ r) (h1 : r < d) (ha : 0 ≤ a) :
    A = ((r * 65536 + a) / d + 65536 * Q) * d + (r * 65536 + a) % d ∧ 0 ≤ (r * 65536 + a) % d ∧ (r * 65536 + a) % d < d ∧ 0 ≤ (r * 65536 + a) / d := by
  have e := Int.mul_ediv_add_emod (r * 65536 + a) d
  refine ⟨?_, Int.emod_nonneg _ (by omega), Int.emod_lt_of_pos _ hd, Int.ediv_nonneg (by omega) (by omega)⟩
  rw [Int.add_mul, Int.mul_assoc, hA, h]
  have e2 : (r * 65536 + a) / d * d = d * ((r * 65536 + a) / d) := Int.mul_comm _ _
  generalize (r * 65536 + a) / d * d = m at *
  generalize d * ((r * 65536 + a) / d) = m' at *
  generalize Q * d = n at *
  omega
theorem small_lt (a d r : Int) (h1 : r < d) (h0 : 0 ≤ r) (hd : 0 < d) (ha : a ≤ 65535) : (r * 65536 + a) / d ≤ 65535 := by
  have : r * 65536 + a < 65536 * d := by omega
  have := Int.ediv_lt_of_lt_mul hd this
  omega

/-- The value from a place on is the value there with the lower limbs cut off. -/
theorem val_take_drop (zs : List Int) (i : Nat) (h : i ≤ zs.length) : val zs = val (zs.take i) + 65536 ^ i * val (zs.drop i) := by
  conv => lhs; rw [← List.take_append_drop i zs, val_append]
  simp [Nat.min_eq_left h]
theorem val_take_succ (zs : List Int) (i : Nat) (h : i < zs.length) : val (zs.take (i + 1)) = val (zs.take i) + 65536 ^ i * zs.getD i 0 := by
  rw [List.take_succ_eq_append_getElem h, val_snoc]
  simp [List.getD, h, Nat.min_eq_left (Nat.le_of_lt h)]
end Go.Proofs.Ytdhponfpikclhaa
