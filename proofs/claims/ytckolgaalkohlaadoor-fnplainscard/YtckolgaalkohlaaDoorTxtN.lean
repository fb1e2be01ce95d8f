/-
  Numbers and their digits: what is read of a text is the number that it was written of.
-/
import Derived.Test.YtckolgaalkohlaaDoorTxt1
import Derived.Test.YtckolgaalkohlaaDoorNat14
namespace Go.Proofs.YtckolgaalkohlaaDoor
open Go.RowKit
set_option linter.unusedVariables false

theorem digN_snoc (ds : List Int) (z : Int) : digN (ds ++ [z]) = 10 * digN ds + (z - 48).toNat := by
  unfold digN
  rw [List.foldl_append]
  rfl

theorem digN_rev (n : Nat) : digN (tdig n).reverse = n := by
  induction n using Nat.strongRecOn with
  | ind n ih =>
    by_cases h : n = 0
    · subst h; rfl
    · rw [tdig_step h, List.reverse_cons, digN_snoc, ih (n / 10) (by omega)]
      omega

theorem digN_decText (n : Nat) : digN (decText n) = n := by
  unfold decText
  by_cases h : n = 0
  · rw [if_pos h, h]; rfl
  · rw [if_neg h, digN_rev]

theorem decText_mem (n : Nat) : ∀ z ∈ decText n, 48 ≤ z ∧ z ≤ 57 := by
  unfold decText
  by_cases h : n = 0
  · rw [if_pos h]; intro z hz; simp at hz; omega
  · rw [if_neg h]; intro z hz; exact tdig_at n n (Nat.le_refl _) z (List.mem_reverse.1 hz)

theorem decText_some (n : Nat) : decText n ≠ [] := by
  unfold decText
  by_cases h : n = 0
  · rw [if_pos h]; simp
  · rw [if_neg h, tdig_step h]; simp

theorem isDig_decText (n : Nat) : isDig (decText n) = true := by
  unfold isDig
  rw [decide_eq_true (decText_some n), Bool.true_and, List.all_eq_true]
  intro z hz
  have := decText_mem n z hz
  rw [decide_eq_true this.1, decide_eq_true this.2]
  rfl

end Go.Proofs.YtckolgaalkohlaaDoor
