/-
  Contracts of the model's l2isDigits and l2digits.
-/
import Derived.Test.YtckolgaalkohlaaDoorNat13
namespace Go.Proofs.YtckolgaalkohlaaDoor
open Go.RowKit
set_option linter.unusedVariables false
set_option maxRecDepth 8000
set_option linter.unusedSimpArgs false

/-- The number that decimal digits are. -/
def digN (bs : List Int) : Nat := bs.foldl (fun n b => 10 * n + (b - 48).toNat) 0
def isDig (bs : List Int) : Bool := decide (bs ≠ []) && bs.all (fun b => decide (48 ≤ b) && decide (b ≤ 57))
theorem take_succ_getD (bs : List Int) (i : Nat) (h : i < bs.length) : bs.take (i + 1) = bs.take i ++ [bs.getD i 0] := by
  rw [List.take_succ_eq_append_getElem h]; simp [List.getD, h]
theorem digN_step (bs : List Int) (i : Nat) (h : i < bs.length) : digN (bs.take (i + 1)) = 10 * digN (bs.take i) + (bs.getD i 0 - 48).toNat := by
  rw [take_succ_getD bs i h]; unfold digN; rw [List.foldl_append]; rfl
theorem isDig_at {bs : List Int} (h : isDig bs = true) (i : Nat) (hi : i < bs.length) : 48 ≤ bs.getD i 0 ∧ bs.getD i 0 ≤ 57 := by
  unfold isDig at h
  rw [Bool.and_eq_true] at h
  have := (List.all_eq_true.1 h.2) (bs[i]) (List.getElem_mem hi)
  simpa [List.getD, hi] using this
theorem isDig_of {bs : List Int} (hne : bs.length ≠ 0) (h : ∀ i, i < bs.length → 48 ≤ bs.getD i 0 ∧ bs.getD i 0 ≤ 57) : isDig bs = true := by
  unfold isDig
  rw [Bool.and_eq_true]
  refine ⟨decide_eq_true (fun e => hne (by rw [e]; rfl)), List.all_eq_true.2 fun b hb => ?_⟩
  obtain ⟨i, hi, rfl⟩ := List.getElem_of_mem hb
  have := h i hi
  simpa [List.getD, hi] using this
theorem isDig_not {bs : List Int} (i : Nat) (hi : i < bs.length) (h : ¬ (48 ≤ bs.getD i 0 ∧ bs.getD i 0 ≤ 57)) : isDig bs = false := by
  cases e : isDig bs
  · rfl
  · exact absurd (isDig_at e i hi) h
theorem isDig_nil {bs : List Int} (h : bs.length = 0) : isDig bs = false := by rw [List.length_eq_zero_iff.1 h]; rfl
theorem limbs_ten (n k d : Nat) (h : (limbs n).length ≤ k) (hd : d ≤ 9) : (limbs (10 * n + d)).length ≤ k + 1 := by
  refine (limbs_length_le _ _).2 ?_
  have := (limbs_length_le n k).1 h
  rw [Int.pow_succ]
  generalize (65536 : Int) ^ k = P at *
  omega
theorem digN_len (bs : List Int) (h : ∀ i, i < bs.length → 48 ≤ bs.getD i 0 ∧ bs.getD i 0 ≤ 57) : ∀ i, i ≤ bs.length → (limbs (digN (bs.take i))).length ≤ i
  | 0, _ => by simp [digN, limbs_zero]
  | i + 1, hi => by
    rw [digN_step bs i (by omega)]
    have := h i (by omega)
    exact limbs_ten _ _ _ (digN_len bs h i (by omega)) (by omega)

end Go.Proofs.YtckolgaalkohlaaDoor
