/-
  Products of dyadic numbers: their forms, and which comes first.
-/
import Derived.Test.YtpognolidbgkkaaDoorDy10m
import Derived.Test.YtpognolidbgkkaaDoorDy3
import Derived.Test.YtpognolidbgkkaaDoorIvM
import Derived.Test.YtpognolidbgkkaaDoorPq3
namespace Go.Proofs.YtpognolidbgkkaaDoor
open Go.RowKit
set_option linter.unusedVariables false
set_option maxRecDepth 8000
set_option linter.unusedSimpArgs false

theorem tz_back7 (n : Nat) : n / 2 ^ tz n * 2 ^ tz n = n := by
  by_cases h : n = 0
  · subst h; simp
  · obtain ⟨q, hq⟩ := tz_form h
    exact Nat.div_mul_cancel ⟨2 * q + 1, hq⟩
theorem dlm_back7 (m : Int) : wval (wsg m) (dlm m) * 2 ^ tz m.natAbs = m := by
  have h1 : wval (wsg m) (dlm m) = if wsg m = true then -((m.natAbs / 2 ^ tz m.natAbs : Nat) : Int) else ((m.natAbs / 2 ^ tz m.natAbs : Nat) : Int) := wval_limbs _ _
  have h2 : (((m.natAbs / 2 ^ tz m.natAbs : Nat) : Int)) * 2 ^ tz m.natAbs = (m.natAbs : Int) := by
    have := congrArg (fun n : Nat => (n : Int)) (tz_back7 m.natAbs)
    simp only [Int.natCast_mul, Int.natCast_pow] at this
    exact this
  rw [h1]
  unfold wsg
  by_cases hm : m < 0
  · rw [if_pos (decide_eq_true hm), Int.neg_mul, h2]; omega
  · rw [if_neg (by simp; omega), h2]; omega
theorem wn_dlm7 (V : Int) : WN (wsg V) (dlm V) := ⟨limbs_nrm _, fun h => by
  by_cases h0 : V = 0
  · subst h0; cases h
  · exact (dlm_pos h0).1⟩
theorem dlm_len7 {m : Int} {A n : Nat} (h : m.natAbs < 2 ^ A) (hn : A ≤ 16 * n) : (dlm m).length ≤ n := by
  have h1 := wlm_len h hn
  have h2 : m.natAbs / 2 ^ tz m.natAbs ≤ m.natAbs := Nat.div_le_self _ _
  refine (limbs_length_le _ _).2 ?_
  have h3 := (limbs_length_le m.natAbs n).1 h1
  omega
/-- A product's form is a number with limbs and a power that are not too great. -/
theorem num_wb {V L : Int} {A : Nat} (hV : V.natAbs < 2 ^ A) (hA : A ≤ 33000) (hL : L ≤ 7000) (hL0 : -7000 ≤ L) : WB (wsg V) (dlm V) (dex V L) := by
  refine ⟨wn_dlm7 V, Nat.le_trans (dlm_len7 hV (show A ≤ 16 * 2500 by omega)) (by decide), ?_, ?_⟩
  · unfold dex
    split
    · decide
    · omega
  · unfold dex
    split
    · decide
    · rename_i h
      have := tz_lt (n := V.natAbs) (by omega) hV
      omega
theorem num_at (m x l : Int) (hl : l ≤ x) : wval (wsg m) (dlm m) * 2 ^ (dex m x - l).toNat = m * 2 ^ (x - l).toNat := by
  by_cases h : m = 0
  · subst h; simp [wval, dlm_zero, val]
  · have e : dex m x = x + (tz m.natAbs : Int) := by unfold dex; rw [if_neg h]
    rw [e, show (x + (tz m.natAbs : Int) - l).toNat = tz m.natAbs + (x - l).toNat by omega, Int.pow_add, ← Int.mul_assoc, dlm_back7]
theorem dex_from {m x l : Int} (hl : l ≤ x) (h0 : l ≤ 0) : l ≤ dex m x := by
  unfold dex
  split
  · exact h0
  · omega
/-- Numbers in their forms stand as they stood. -/
theorem cmp_form {m x n y : Int} (hx : -7000 ≤ x) (hy : -7000 ≤ y) : cmpDI (wval (wsg m) (dlm m)) (dex m x) (wval (wsg n) (dlm n)) (dex n y) = cmpDI m x n y := by
  rw [cmpDI_lo _ _ _ _ (-7000) (dex_from hx (by decide)) (dex_from hy (by decide)), cmpDI_lo m x n y (-7000) hx hy, num_at m x _ hx, num_at n y _ hy]
theorem cmp_turn (m x n y : Int) : cmpDI n y m x = -cmpDI m x n y := by
  rw [cmpDI_lo n y m x (min x y) (by omega) (by omega), cmpDI_lo m x n y (min x y) (by omega) (by omega)]
  obtain ⟨a, ha⟩ : ∃ a, m * 2 ^ (x - min x y).toNat = a := ⟨_, rfl⟩
  obtain ⟨b, hb⟩ : ∃ b, n * 2 ^ (y - min x y).toNat = b := ⟨_, rfl⟩
  rw [ha, hb]
  rcases cmpI_tri a b with ⟨e, g⟩ | ⟨e, g⟩ | ⟨e, g⟩ <;> rcases cmpI_tri b a with ⟨e', g'⟩ | ⟨e', g'⟩ | ⟨e', g'⟩ <;> rw [e, e'] <;> omega
/-- The products of numbers that may be told. -/
theorem prod_wb {s t : Bool} {xs ys : List Int} {x y : Int} (h1 : dokB s xs x = true) (h2 : dokB t ys y = true) : WB (wsg (wval s xs * wval t ys)) (dlm (wval s xs * wval t ys)) (dex (wval s xs * wval t ys) (x + y)) ∧ -7000 ≤ x + y := by
  obtain ⟨w1', f1, f2, -, -⟩ := dok_parts h1
  obtain ⟨w2', f3, f4, -, -⟩ := dok_parts h2
  obtain ⟨-, -, lx, hx⟩ := wok_int w1'
  obtain ⟨-, -, ly, hy⟩ := wok_int w2'
  exact ⟨num_wb (mul_lt (wval_lt hx.1) (wval_lt hy.1)) (by omega) (by omega) (by omega), by omega⟩
/-- One step of which comes first. -/
theorem selP_less {C : Nat → Nat → Int} {i : Nat} (hi : 0 < i) (h : ∀ j k, C j k = -C k j) : selP (fun i j => decide (C i j < 0)) (i + 1) = pk (decide (0 < C (selP (fun i j => decide (C i j < 0)) i) i)) (selP (fun i j => decide (C i j < 0)) i) i := by
  obtain ⟨n, rfl⟩ : ∃ n, i = n + 1 := ⟨i - 1, by omega⟩
  obtain ⟨b, hb⟩ : ∃ b, selP (fun i j => decide (C i j < 0)) (n + 1) = b := ⟨_, rfl⟩
  have e : selP (fun i j => decide (C i j < 0)) (n + 1 + 1) = if decide (C (n + 1) b < 0) = true then n + 1 else b := by rw [← hb]; rfl
  rw [e, hb, h (n + 1) b, show decide (-C b (n + 1) < 0) = decide (0 < C b (n + 1)) from decide_eq_decide.2 (by omega)]
  rfl
theorem selP_more {C : Nat → Nat → Int} {i : Nat} (hi : 0 < i) (h : ∀ j k, C j k = -C k j) : selP (fun i j => decide (0 < C i j)) (i + 1) = pk (decide (C (selP (fun i j => decide (0 < C i j)) i) i < 0)) (selP (fun i j => decide (0 < C i j)) i) i := by
  obtain ⟨n, rfl⟩ : ∃ n, i = n + 1 := ⟨i - 1, by omega⟩
  obtain ⟨b, hb⟩ : ∃ b, selP (fun i j => decide (0 < C i j)) (n + 1) = b := ⟨_, rfl⟩
  have e : selP (fun i j => decide (0 < C i j)) (n + 1 + 1) = if decide (0 < C (n + 1) b) = true then n + 1 else b := by rw [← hb]; rfl
  rw [e, hb, h (n + 1) b, show decide (0 < -C b (n + 1)) = decide (C b (n + 1) < 0) from decide_eq_decide.2 (by omega)]
  rfl
end Go.Proofs.YtpognolidbgkkaaDoor

