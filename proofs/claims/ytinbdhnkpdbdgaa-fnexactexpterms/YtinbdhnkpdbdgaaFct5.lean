/-
  How many terms are enough: the model's l11terms and ExpTerms.
-/
import Derived.Test.YtinbdhnkpdbdgaaFct1
import Derived.Test.YtinbdhnkpdbdgaaBA
namespace Go.Proofs.Ytinbdhnkpdbdgaa
open Go.RowKit
set_option linter.unusedVariables false
set_option maxRecDepth 8000

/-- k terms are enough to the power W. -/
def EnT (W k : Nat) : Bool := decide (W < k + bitsN (fct (k + 1)))
def trmF (W : Nat) : Nat → Nat → Nat
  | 0, k => k
  | f + 1, k => if EnT W k = true then k else trmF W f (k + 1)
/-- The least number of terms that are enough. -/
def trm (W : Nat) : Nat := trmF W 98 1
theorem trmF_is (W : Nat) : ∀ (f k : Nat), (∀ j, 1 ≤ j → j < k → EnT W j = false) → 1 ≤ k → EnT W (k + f) = true → 1 ≤ trmF W f k ∧ trmF W f k ≤ k + f ∧ EnT W (trmF W f k) = true ∧ ∀ j, 1 ≤ j → j < trmF W f k → EnT W j = false := by
  intro f
  induction f with
  | zero => intro k h1 h2 h3; exact ⟨h2, Nat.le_refl _, h3, h1⟩
  | succ f ih =>
    intro k h1 h2 h3
    unfold trmF
    by_cases h : EnT W k = true
    · rw [if_pos h]; exact ⟨h2, by omega, h, h1⟩
    · rw [if_neg h]
      obtain ⟨a, b, c, d⟩ := ih (k + 1) (fun j hj hjk => by
        by_cases e : j = k
        · subst e; simpa using h
        · exact h1 j hj (by omega)) (by omega) (by rw [show k + 1 + f = k + (f + 1) by omega]; exact h3)
      exact ⟨a, by omega, c, d⟩
theorem en_99 : 400 < 99 + bitsN (fct (99 + 1)) := by decide +kernel
theorem trm_is (W : Nat) (hW : W ≤ 400) : 1 ≤ trm W ∧ trm W ≤ 99 ∧ EnT W (trm W) = true ∧ ∀ j, 1 ≤ j → j < trm W → EnT W j = false := by
  obtain ⟨F, hF⟩ : ∃ F, F = 98 := ⟨_, rfl⟩
  unfold trm
  rw [← hF]
  have h := trmF_is W F 1 (fun j h1 h2 => by omega) (Nat.le_refl _) (decide_eq_true (by rw [show 1 + F = 99 by omega]; have := en_99; omega))
  exact ⟨h.1, by omega, h.2.2⟩
theorem trm_unique {W k : Nat} (hW : W ≤ 400) (h1 : 1 ≤ k) (h2 : EnT W k = true) (h3 : ∀ j, 1 ≤ j → j < k → EnT W j = false) : k = trm W := by
  obtain ⟨a, -, c, d⟩ := trm_is W hW
  rcases Nat.lt_trichotomy k (trm W) with h | h | h
  · rw [d k h1 h] at h2; cases h2
  · exact h
  · rw [h3 _ a h] at c; cases c
theorem fct_bits (n : Nat) (hn : n ≤ 60000) : bitsN (fct n) ≤ 16 * (n + 1) := (bitsN_le _ _).2 (by
  have := fct_lt n hn
  rwa [show (65536 : Nat) = 2 ^ 16 from rfl, ← Nat.pow_mul] at this)

set_option maxHeartbeats 4000000 in
theorem terms_spec (W : Nat) (hW : W ≤ 400) (w : World) :
    Calls Try.prog 19 #[.int .i64 (-(W : Int))] w fun e w' => e = .returned (.int .i64 (trm W : Int)) ∧ Kept 0 0 w w' := by
  have hneg : IntKind.i64.wrap (-(-(W : Int))) = (W : Int) := by rw [IntKind.wrap_i64]; omega
  obtain ⟨R, hR⟩ : ∃ R, trm W = R := ⟨_, rfl⟩
  have ht := trm_is W hW
  rw [hR] at ht ⊢
  have HR := hide hR
  obtain ⟨t1, t2, t3, t4⟩ := ht
  have T3 := hide t3
  have T4 := hide t4
  clear hR t3 t4
  go_enter Try.func19, Try.ntmps19
  go_wp2_with fail
  go_loopw [3] (fun ii wr => ∃ (k : Nat), ii = .int .i64 (k : Int) ∧ 1 ≤ k ∧ k ≤ R ∧ Kept 0 0 w wr) (fun ii _ => 200 - (intOf ii).toNat)
  case atStart => exact ⟨1, rfl, Nat.le_refl _, t1, Kept.refl _ _ _⟩
  case round =>
    obtain ⟨k, rfl, h1, h2, kk⟩ := hrel
    have hw1 : IntKind.i64.wrap ((k : Int) + 1) = (k : Int) + 1 := by rw [IntKind.wrap_i64]; omega
    have ms := fun w => fact_spec (k + 1) (by omega) w
    have hb := fct_bits (k + 1) (by omega)
    have hl := fct_len (k + 1) (by omega)
    obtain ⟨B, hB⟩ : ∃ B, bitsN (fct (k + 1)) = B := ⟨_, rfl⟩
    have mb : ∀ (w : World) (v : Value) (lo hi : Nat), Row .i64 true lo hi w v (limbs (fct (k + 1))) → Calls Try.prog 26 #[.agg #[v]] w fun e w' => e = .returned (.int .i64 (B : Int)) ∧ Kept 0 0 w w' := fun w v lo hi r => by
      have := bits_spec w r (limbs_nrm _) (by omega)
      rw [limbs_val, Int.toNat_natCast, hB] at this
      exact this
    rw [hB] at hb
    have hw2 : IntKind.i64.wrap ((k : Int) + (B : Int)) = (k : Int) + (B : Int) := by rw [IntKind.wrap_i64]; omega
    have hw3 : IntKind.i64.wrap ((k : Int) + (B : Int) - 1) = (k : Int) + (B : Int) - 1 := by rw [IntKind.wrap_i64]; omega
    have HB := hide hB
    obtain ⟨LF, hLF⟩ : ∃ L, limbs (fct (k + 1)) = L := ⟨_, rfl⟩
    rw [hLF] at hl
    simp only [hLF, Int.natCast_add, Int.natCast_one] at ms mb
    replace ms := hide ms
    replace mb := hide mb
    clear hB hLF hb hl
    by_cases hc : EnT W k = true
    · have hk : k = R := by
        by_cases e : k = R
        · exact e
        · rw [unhide T4 k h1 (by omega)] at hc; cases hc
      have hlt : ¬ (k : Int) + (B : Int) - 1 < (W : Int) := by have := of_decide_eq_true hc; rw [unhide HB] at this; omega
      have K := hide kk
      have HK := hide hk
      clear kk hc hk
      go_wp2_with fail
      refine (unhide ms _).mono ?_
      rintro e w1 ⟨v1, rfl, r1, k1⟩
      go_wp2_with fail
      refine (unhide mb _ _ _ _ r1).mono ?_
      rintro e w2 ⟨rfl, k2⟩
      replace K := hide (((unhide K).trans k1).trans k2)
      clear k1 k2 r1
      go_wp2_with fail
      go_ret
      exact ⟨by rw [unhide HK]; rfl, unhide K⟩
    · have hlt : (k : Int) + (B : Int) - 1 < (W : Int) := by have := of_decide_eq_false (by simpa [EnT] using hc : decide (W < k + bitsN (fct (k + 1))) = false); rw [unhide HB] at this; omega
      have hk : k < R := by
        by_cases e : k = R
        · subst e; exact absurd (unhide T3) hc
        · omega
      have K := hide kk
      clear kk hc
      go_wp2_with fail
      refine (unhide ms _).mono ?_
      rintro e w1 ⟨v1, rfl, r1, k1⟩
      go_wp2_with fail
      refine (unhide mb _ _ _ _ r1).mono ?_
      rintro e w2 ⟨rfl, k2⟩
      replace K := hide (((unhide K).trans k1).trans k2)
      clear k1 k2 r1
      go_wp2
      go_roundw
      case rel => exact ⟨k + 1, by go_num, by omega, by omega, unhide K⟩
      case measure => simp [intOf]; omega

end Go.Proofs.Ytinbdhnkpdbdgaa
