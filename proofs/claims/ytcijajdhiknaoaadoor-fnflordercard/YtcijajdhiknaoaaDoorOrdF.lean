/-
  The order of floats that are numbers is that of the dyadic numbers that FlDy tells: numbers alone.
-/
import Derived.Test.YtcijajdhiknaoaaDoorFl13
import Derived.Test.YtcijajdhiknaoaaDoorFlNum
import Derived.Test.YtcijajdhiknaoaaDoorFl9o
namespace Go.Proofs.YtcijajdhiknaoaaDoor
open Go.RowKit
set_option linter.unusedVariables false

theorem fcmB_swap (k1 : Int) (n1 : Bool) (m1 e1 k2 : Int) (n2 : Bool) (m2 e2 : Int) : fcmB k2 n2 m2 e2 k1 n1 m1 e1 = fcmB k1 n1 m1 e1 k2 n2 m2 e2 := by
  unfold fcmB
  cases flok k1 n1 m1 e1 <;> cases flok k2 n2 m2 e2 <;> simp [Bool.and_comm]
theorem cmpI_back (a b : Int) : cmpI b a = -cmpI a b := by
  unfold cmpI
  split <;> split <;> (try split) <;> (try split) <;> omega
theorem fcmI_swap (k1 : Int) (n1 : Bool) (m1 e1 k2 : Int) (n2 : Bool) (m2 e2 : Int) : fcmI k2 n2 m2 e2 k1 n1 m1 e1 = -fcmI k1 n1 m1 e1 k2 n2 m2 e2 := by
  unfold fcmI
  rw [fcmB_swap]
  split
  · exact cmpI_back _ _
  · rfl
theorem fcmI_range (k1 : Int) (n1 : Bool) (m1 e1 k2 : Int) (n2 : Bool) (m2 e2 : Int) : -1 ≤ fcmI k1 n1 m1 e1 k2 n2 m2 e2 ∧ fcmI k1 n1 m1 e1 k2 n2 m2 e2 ≤ 1 := by
  unfold fcmI
  split
  · unfold cmpI
    split
    · omega
    · split <;> omega
  · omega

theorem fdy_ways {k : Int} {n : Bool} {m e : Int} (h : fdyB k n m e = true) : flok k n m e = true ∧ k ≠ 3 ∧ k ≠ 2 := by
  unfold fdyB at h
  simp only [Bool.and_eq_true, Bool.or_eq_true, beq_iff_eq] at h
  exact ⟨h.1, by omega, by omega⟩

theorem fin_form {k : Int} {n : Bool} {m e : Int} (h : flok k n m e = true) (h9 : k ≠ 3) (h2 : k ≠ 2) :
    ∃ (M : Int) (E : Nat), 0 ≤ M ∧ M ≤ 9007199254740991 ∧ (4503599627370496 ≤ M ∨ E = 0) ∧ (fM k n m) * 2 ^ (e - -1074).toNat = (if n = true then -M else M) * 2 ^ E ∧
      plc k n m e = (if n = true then -((E : Int) * 4503599627370496 + M) else (E : Int) * 4503599627370496 + M) ∧ (fM k n m).natAbs < 2 ^ 64 ∧ -1074 ≤ e ∧ e ≤ 971 := by
  have e64 : (2 : Nat) ^ 64 = 18446744073709551616 := by decide
  rcases flok_ways h with ⟨rfl, h1, h2, h3, h4, h5⟩ | ⟨rfl, rfl, rfl⟩ | ⟨rfl, rfl, rfl⟩ | ⟨rfl, -⟩
  · refine ⟨m, (e + 1074).toNat, by omega, h4, by omega, ?_, ?_, ?_, h1, h2⟩
    · unfold fM
      rw [if_pos rfl, show e - -1074 = e + 1074 by omega]
    · unfold plc
      rw [if_pos rfl, show (((e + 1074).toNat : Nat) : Int) = e + 1074 by omega]
    · unfold fM
      rw [if_pos rfl, e64]
      split <;> omega
  · refine ⟨0, 0, by omega, by omega, .inr rfl, ?_, ?_, ?_, by omega, by omega⟩
    · rw [fM_zero (by decide), Int.zero_mul]; cases n <;> rfl
    · unfold plc; cases n <;> rfl
    · rw [fM_zero (by decide), e64]; omega
  · exact absurd rfl h2
  · exact absurd rfl h9

theorem fdy_told {k : Int} {n : Bool} {m e : Int} (h : fdyB k n m e = true) : ansDB (fdyB k n m e) (fM k n m) e = true ∧ ansDS (fdyB k n m e) (fM k n m) e = wsg (fM k n m) ∧ ansDL (fdyB k n m e) (fM k n m) e = dlm (fM k n m) ∧ ansDE (fdyB k n m e) (fM k n m) e = dex (fM k n m) e ∧ dokB (wsg (fM k n m)) (dlm (fM k n m)) (dex (fM k n m) e) = true := by
  obtain ⟨h1, h2, h3⟩ := fdy_ways h
  obtain ⟨M, E, -, -, -, -, -, a8, a9, a10⟩ := fin_form h1 h2 h3
  obtain ⟨e1, e2, e3, e4⟩ := ans_yes (c := fdyB k n m e) (m := fM k n m) (x := e) h a8 (by omega) (by omega)
  exact ⟨e4, e1, e2, e3, dok_told' _ _ a8 (by omega) (by omega)⟩

/-- The order of two floats that are numbers. -/
theorem ord_fin {k1 : Int} {n1 : Bool} {m1 e1 k2 : Int} {n2 : Bool} {m2 e2 : Int} (h1 : fdyB k1 n1 m1 e1 = true) (h2 : fdyB k2 n2 m2 e2 = true) :
    fcmB k1 n1 m1 e1 k2 n2 m2 e2 = true ∧ cmpD (ansDS (fdyB k1 n1 m1 e1) (fM k1 n1 m1) e1) (ansDL (fdyB k1 n1 m1 e1) (fM k1 n1 m1) e1) (ansDE (fdyB k1 n1 m1 e1) (fM k1 n1 m1) e1)
      (ansDS (fdyB k2 n2 m2 e2) (fM k2 n2 m2) e2) (ansDL (fdyB k2 n2 m2 e2) (fM k2 n2 m2) e2) (ansDE (fdyB k2 n2 m2 e2) (fM k2 n2 m2) e2) = fcmI k1 n1 m1 e1 k2 n2 m2 e2 := by
  obtain ⟨o1, o3, o2⟩ := fdy_ways h1
  obtain ⟨p1, p3, p2⟩ := fdy_ways h2
  obtain ⟨-, t1, t2, t3, t4⟩ := fdy_told h1
  obtain ⟨-, s1, s2, s3, s4⟩ := fdy_told h2
  have hb : fcmB k1 n1 m1 e1 k2 n2 m2 e2 = true := by unfold fcmB; simp [o1, p1, o3, p3]
  refine ⟨hb, ?_⟩
  rw [t1, t2, t3, s1, s2, s3, cmpD_ok t4 s4]
  obtain ⟨M, E, a1, a2, a4, a6, a7, a8, a9, a10⟩ := fin_form o1 o3 o2
  obtain ⟨M', E', b1, b2, b4, b6, b7, b8, b9, b10⟩ := fin_form p1 p3 p2
  rw [cmpDI_at _ _ _ _ (-1074) (dex_low _ _ _ (by omega) (by omega)) (dex_low _ _ _ (by omega) (by omega)), d_value _ _ _ (by omega) (by omega), d_value _ _ _ (by omega) (by omega), a6, b6,
    place_cmp n1 n2 M M' E E' a1 a2 b1 b2 a4 b4]
  unfold fcmI
  rw [if_pos hb, a7, b7]

end Go.Proofs.YtcijajdhiknaoaaDoor
