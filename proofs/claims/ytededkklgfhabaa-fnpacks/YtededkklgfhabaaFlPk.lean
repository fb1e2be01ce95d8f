/-
  What FlPack and FlUnpack tell, held against one another: numbers alone.
-/
import Derived.Test.YtededkklgfhabaaFl18
import Derived.Test.YtededkklgfhabaaFl9p
namespace Go.Proofs.Ytededkklgfhabaa
open Go.RowKit
set_option linter.unusedVariables false

theorem pk_form {k : Int} {n : Bool} {m e : Int} (h : flok k n m e = true) (h3 : k ≠ 3) :
    ∃ B : Int, 0 ≤ B ∧ B ≤ 9218868437227405312 ∧ fpk k n m e = (sgb n + B / 4294967296, B % 4294967296) ∧ fob B n = (k, n, m, e) ∧ plc k n m e = (if n = true then -B else B) := by
  rcases flok_ways h with ⟨rfl, h1, h2, h3, h4, h5⟩ | ⟨rfl, rfl, rfl⟩ | ⟨rfl, rfl, rfl⟩ | ⟨rfl, -⟩
  · refine ⟨(e + 1074) * 4503599627370496 + m, by omega, by omega, ?_, fob_val (by omega) (by omega) (by omega) (by omega) h5 rfl, ?_⟩
    · unfold fpk; rw [if_pos h, if_pos rfl]
    · unfold plc; rw [if_pos rfl]
  · refine ⟨0, by omega, by omega, ?_, rfl, rfl⟩
    unfold fpk; rw [if_pos h, if_neg (by decide), if_pos rfl]; simp
  · refine ⟨9218868437227405312, by omega, by omega, ?_, rfl, rfl⟩
    unfold fpk; rw [if_pos h, if_neg (by decide), if_neg (by decide), if_pos rfl]; rfl
  · exact absurd rfl h3

theorem un_pack {k : Int} {n : Bool} {m e : Int} (h : flok k n m e = true) : okU (fpk k n m e).1 (fpk k n m e).2 = true ∧ fun2 (fpk k n m e).1 (fpk k n m e).2 = (k, n, m, e) := by
  by_cases h3 : k = 3
  · subst h3
    rcases flok_ways h with ⟨h9, -⟩ | ⟨h9, -⟩ | ⟨h9, -⟩ | ⟨-, rfl, rfl, rfl⟩
    · omega
    · omega
    · omega
    · have e : fpk 3 false 0 0 = (2146959360, 0) := by unfold fpk; rw [if_pos h]; rfl
      rw [e]
      exact ⟨rfl, rfl⟩
  · obtain ⟨B, b0, b1, e1, e2, -⟩ := pk_form h h3
    rw [e1]
    have ho : okU (sgb n + B / 4294967296) (B % 4294967296) = true := by
      unfold okU sgb
      cases n <;> simp <;> omega
    refine ⟨ho, ?_⟩
    unfold fun2
    rw [if_pos ho]
    have q1 : (sgb n + B / 4294967296) % 2147483648 * 4294967296 + B % 4294967296 = B := by
      unfold sgb
      cases n <;> simp <;> omega
    have q2 : decide (2147483648 ≤ sgb n + B / 4294967296) = n := by
      unfold sgb
      cases n
      · exact decide_eq_false (by simp; omega)
      · exact decide_eq_true (by simp; omega)
    show fob ((sgb n + B / 4294967296) % 2147483648 * 4294967296 + B % 4294967296) (decide (2147483648 ≤ sgb n + B / 4294967296)) = _
    rw [q1, q2, e2]

theorem ok_un {hi lo : Int} (h : okU hi lo = true) : flok (fun2 hi lo).1 (fun2 hi lo).2.1 (fun2 hi lo).2.2.1 (fun2 hi lo).2.2.2 = true := by
  have h' := h
  unfold okU at h'
  simp only [decide_eq_true_eq] at h'
  obtain ⟨h1, h2, h3, h4⟩ := h'
  rw [show fun2 hi lo = fob (hi % 2147483648 * 4294967296 + lo) (decide (2147483648 ≤ hi)) by unfold fun2; rw [if_pos h]]
  generalize hB : hi % 2147483648 * 4294967296 + lo = B
  have b0 : 0 ≤ B := by omega
  generalize decide (2147483648 ≤ hi) = n
  unfold fob
  by_cases q1 : 9218868437227405312 < B
  · rw [if_pos q1]; rfl
  rw [if_neg q1]
  by_cases q2 : B = 9218868437227405312
  · rw [if_pos q2]; rfl
  rw [if_neg q2]
  by_cases q3 : B = 0
  · rw [if_pos q3]; rfl
  rw [if_neg q3]
  by_cases q4 : B < 4503599627370496
  · rw [if_pos q4]
    unfold flok
    rw [if_pos rfl]
    exact decide_eq_true (by dsimp only; omega)
  · rw [if_neg q4]
    unfold flok
    rw [if_pos rfl]
    exact decide_eq_true (by dsimp only; omega)

/-- The order of what is not below nought is the order of its bits. -/
theorem pk_order {k1 : Int} {m1 e1 : Int} {k2 : Int} {m2 e2 : Int} (h : fcmB k1 false m1 e1 k2 false m2 e2 = true) :
    (fcmI k1 false m1 e1 k2 false m2 e2 < 0 ∧ ((fpk k1 false m1 e1).1 < (fpk k2 false m2 e2).1 ∨ ((fpk k1 false m1 e1).1 = (fpk k2 false m2 e2).1 ∧ (fpk k1 false m1 e1).2 < (fpk k2 false m2 e2).2))) ∨
    (0 ≤ fcmI k1 false m1 e1 k2 false m2 e2 ∧ ¬ (fpk k1 false m1 e1).1 < (fpk k2 false m2 e2).1 ∧ ((fpk k1 false m1 e1).1 = (fpk k2 false m2 e2).1 → ¬ (fpk k1 false m1 e1).2 < (fpk k2 false m2 e2).2)) := by
  have hg' := h
  unfold fcmB at hg'
  simp only [Bool.and_eq_true, bne_iff_ne, ne_eq] at hg'
  obtain ⟨⟨⟨h1, h2⟩, h3⟩, h4⟩ := hg'
  obtain ⟨B1, b0, b1, e1', -, p1⟩ := pk_form h1 h3
  obtain ⟨B2, c0, c1, e2', -, p2⟩ := pk_form h2 h4
  unfold fcmI
  rw [if_pos h, e1', e2', p1, p2]
  simp only [sgb, Bool.false_eq_true, if_false]
  unfold cmpI
  split
  · left; refine ⟨by omega, ?_⟩; omega
  · right
    split
    · exact ⟨by omega, by omega, by omega⟩
    · exact ⟨by omega, by omega, by omega⟩

end Go.Proofs.Ytededkklgfhabaa
