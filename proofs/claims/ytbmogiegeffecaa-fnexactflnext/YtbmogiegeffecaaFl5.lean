/-
  FlUnpack, the model's; what both answer.
-/
import Derived.Test.YtbmogiegeffecaaFl4
namespace Go.Proofs.Ytbmogiegeffecaa
open Go.RowKit
set_option linter.unusedVariables false
set_option linter.unusedSimpArgs false

set_option maxHeartbeats 2000000 in
theorem flun_spec_nan (hi lo H : Int) (s : Bool) (h1 : 0 ≤ hi) (h2 : hi < 4294967296) (h3 : 0 ≤ lo) (h4 : lo < 4294967296) (g1 : 0 ≤ H) (g2 : H ≤ 1048575) (hE : bits .and .i64 (hi / 1048576) 2047 = 2047) (hH : bits .and .i64 hi 1048575 = H) (hN : (hi / 2147483648 == 1) = s) (h5 : 0 < H * 4294967296 + lo) (w : World) :
    Calls Try.prog 13 #[.int .i64 hi, .int .i64 lo] w fun r w' => r = .returned (.tuple #[flv 3 false 0 0, .bool true]) ∧ Kept 0 0 w w' := by
  go_enter Try.func13, Try.ntmps13
  go_wp2_with (go_at_call 22; refine (l5nan_any _).mono ?_; rintro r w1 ⟨rfl, rfl⟩)
  all_goals first
    | exact bodyPost_ret (v := .tuple #[flv 3 false 0 0, .bool true]) (by simp [results, Try.results13, go_sem]) rfl ⟨rfl, by repeat first | exact Kept.refl 0 0 _ | apply Kept.alloc⟩
    | (exfalso; simp_all; omega)
    | trace_state

set_option maxHeartbeats 2000000 in
theorem flun_spec_inf (hi lo H : Int) (s : Bool) (h1 : 0 ≤ hi) (h2 : hi < 4294967296) (h3 : 0 ≤ lo) (h4 : lo < 4294967296) (g1 : 0 ≤ H) (g2 : H ≤ 1048575) (hE : bits .and .i64 (hi / 1048576) 2047 = 2047) (hH : bits .and .i64 hi 1048575 = H) (hN : (hi / 2147483648 == 1) = s) (h5 : H * 4294967296 + lo = 0) (w : World) :
    Calls Try.prog 13 #[.int .i64 hi, .int .i64 lo] w fun r w' => r = .returned (.tuple #[flv 2 s 0 0, .bool true]) ∧ Kept 0 0 w w' := by
  have hH0 : H = 0 := by omega
  have hl0 : lo = 0 := by omega
  subst hH0 hl0
  clear h5 g1 g2 h3 h4
  go_enter Try.func13, Try.ntmps13
  go_wp2_with (go_at_call 22; refine (l5nan_any _).mono ?_; rintro r w1 ⟨rfl, rfl⟩)
  all_goals first
    | exact bodyPost_ret (v := .tuple #[flv 2 s 0 0, .bool true]) (by simp [results, Try.results13, go_sem]) rfl ⟨rfl, by repeat first | exact Kept.refl 0 0 _ | apply Kept.alloc⟩
    | (exfalso; simp_all; omega)
    | trace_state

set_option maxHeartbeats 2000000 in
theorem flun_spec_nought (hi lo H : Int) (s : Bool) (h1 : 0 ≤ hi) (h2 : hi < 4294967296) (h3 : 0 ≤ lo) (h4 : lo < 4294967296) (g1 : 0 ≤ H) (g2 : H ≤ 1048575) (hE : bits .and .i64 (hi / 1048576) 2047 = 0) (hH : bits .and .i64 hi 1048575 = H) (hN : (hi / 2147483648 == 1) = s) (h5 : H * 4294967296 + lo = 0) (w : World) :
    Calls Try.prog 13 #[.int .i64 hi, .int .i64 lo] w fun r w' => r = .returned (.tuple #[flv 0 s 0 0, .bool true]) ∧ Kept 0 0 w w' := by
  have hH0 : H = 0 := by omega
  have hl0 : lo = 0 := by omega
  subst hH0 hl0
  clear h5 g1 g2 h3 h4
  go_enter Try.func13, Try.ntmps13
  go_wp2_with (go_at_call 22; refine (l5nan_any _).mono ?_; rintro r w1 ⟨rfl, rfl⟩)
  all_goals first
    | exact bodyPost_ret (v := .tuple #[flv 0 s 0 0, .bool true]) (by simp [results, Try.results13, go_sem]) rfl ⟨rfl, by repeat first | exact Kept.refl 0 0 _ | apply Kept.alloc⟩
    | (exfalso; simp_all; omega)
    | trace_state

set_option maxHeartbeats 2000000 in
theorem flun_spec_small (hi lo H : Int) (s : Bool) (h1 : 0 ≤ hi) (h2 : hi < 4294967296) (h3 : 0 ≤ lo) (h4 : lo < 4294967296) (g1 : 0 ≤ H) (g2 : H ≤ 1048575) (hE : bits .and .i64 (hi / 1048576) 2047 = 0) (hH : bits .and .i64 hi 1048575 = H) (hN : (hi / 2147483648 == 1) = s) (h5 : 0 < H * 4294967296 + lo) (w : World) :
    Calls Try.prog 13 #[.int .i64 hi, .int .i64 lo] w fun r w' => r = .returned (.tuple #[flv 1 s (H * 4294967296 + lo) (-1074), .bool true]) ∧ Kept 0 0 w w' := by
  go_enter Try.func13, Try.ntmps13
  go_wp2_with (go_at_call 22; refine (l5nan_any _).mono ?_; rintro r w1 ⟨rfl, rfl⟩)
  all_goals first
    | exact bodyPost_ret (v := .tuple #[flv 1 s (H * 4294967296 + lo) (-1074), .bool true]) (by simp [results, Try.results13, go_sem]) rfl ⟨rfl, by repeat first | exact Kept.refl 0 0 _ | apply Kept.alloc⟩
    | (exfalso; simp_all; omega)
    | trace_state

set_option maxHeartbeats 2000000 in
theorem flun_spec_full (hi lo H : Int) (E : Int) (s : Bool) (h1 : 0 ≤ hi) (h2 : hi < 4294967296) (h3 : 0 ≤ lo) (h4 : lo < 4294967296) (g1 : 0 ≤ H) (g2 : H ≤ 1048575) (hE : bits .and .i64 (hi / 1048576) 2047 = E) (hH : bits .and .i64 hi 1048575 = H) (hN : (hi / 2147483648 == 1) = s) (h5 : 0 < E) (h6 : E < 2047) (w : World) :
    Calls Try.prog 13 #[.int .i64 hi, .int .i64 lo] w fun r w' => r = .returned (.tuple #[flv 1 s (H * 4294967296 + lo + 4503599627370496) (E - 1 + -1074), .bool true]) ∧ Kept 0 0 w w' := by
  go_enter Try.func13, Try.ntmps13
  go_wp2_with (go_at_call 22; refine (l5nan_any _).mono ?_; rintro r w1 ⟨rfl, rfl⟩)
  all_goals first
    | exact bodyPost_ret (v := .tuple #[flv 1 s (H * 4294967296 + lo + 4503599627370496) (E - 1 + -1074), .bool true]) (by simp [results, Try.results13, go_sem]) rfl ⟨rfl, by repeat first | exact Kept.refl 0 0 _ | apply Kept.alloc⟩
    | (exfalso; simp_all; omega)
    | trace_state

set_option maxHeartbeats 1000000 in
theorem flun_spec_bad (hi lo : Int) (h : ¬ (0 ≤ hi ∧ hi ≤ 4294967295 ∧ 0 ≤ lo ∧ lo ≤ 4294967295)) (w : World) :
    Calls Try.prog 13 #[.int .i64 hi, .int .i64 lo] w fun r w' => r = .returned (.tuple #[flv 0 false 0 0, .bool false]) ∧ Kept 0 0 w w' := by
  go_enter Try.func13, Try.ntmps13
  go_wp2_with fail
  all_goals first
    | exact bodyPost_ret (v := .tuple #[flv 0 false 0 0, .bool false]) (by simp [results, Try.results13, go_sem]) rfl ⟨rfl, by repeat first | exact Kept.refl 0 0 _ | apply Kept.alloc⟩
    | (exfalso; simp_all; omega)
    | trace_state

/-- Whether both words are 32 bits. -/
def okU (hi lo : Int) : Bool := decide (0 ≤ hi ∧ hi ≤ 4294967295 ∧ 0 ≤ lo ∧ lo ≤ 4294967295)

/-- The float of bits below the sign. -/
def fob (b : Int) (n : Bool) : Int × Bool × Int × Int :=
  if 9218868437227405312 < b then (3, false, 0, 0) else if b = 9218868437227405312 then (2, n, 0, 0) else if b = 0 then (0, n, 0, 0)
  else if b < 4503599627370496 then (1, n, b % 4503599627370496, -1074) else (1, n, 4503599627370496 + b % 4503599627370496, b / 4503599627370496 - 1 - 1074)

/-- What FlUnpack tells. -/
def fun2 (hi lo : Int) : Int × Bool × Int × Int :=
  if okU hi lo = true then fob (hi % 2147483648 * 4294967296 + lo) (decide (2147483648 ≤ hi)) else (0, false, 0, 0)

theorem flun_impl (hi lo : Int) (w : World) :
    Calls Try.prog 14 #[.int .i64 hi, .int .i64 lo] w fun r w' => r = .returned (.tuple #[flq (fun2 hi lo), .bool (okU hi lo)]) ∧ Kept 0 0 w w' := by
  by_cases h : okU hi lo = true
  · have h' := h
    unfold okU at h'
    simp only [decide_eq_true_eq] at h'
    obtain ⟨h1, h2, h3, h4⟩ := h'
    rw [show fun2 hi lo = fob (hi % 2147483648 * 4294967296 + lo) (decide (2147483648 ≤ hi)) by unfold fun2; rw [if_pos h], h]
    unfold fob
    by_cases q1 : 9218868437227405312 < hi % 2147483648 * 4294967296 + lo
    · rw [if_pos q1]; exact flun_impl_nan hi lo h1 h2 h3 h4 q1 w
    rw [if_neg q1]
    by_cases q2 : hi % 2147483648 * 4294967296 + lo = 9218868437227405312
    · rw [if_pos q2]; exact flun_impl_inf hi lo h1 h2 h3 h4 q2 w
    rw [if_neg q2]
    by_cases q3 : hi % 2147483648 * 4294967296 + lo = 0
    · rw [if_pos q3]; exact flun_impl_nought hi lo h1 h2 h3 h4 q3 w
    rw [if_neg q3]
    by_cases q4 : hi % 2147483648 * 4294967296 + lo < 4503599627370496
    · rw [if_pos q4]; exact flun_impl_small hi lo h1 h2 h3 h4 (by omega) q4 w
    rw [if_neg q4]
    exact flun_impl_full hi lo h1 h2 h3 h4 (by omega) (by omega) w
  · have h' : okU hi lo = false := by simpa using h
    rw [show fun2 hi lo = (0, false, 0, 0) by unfold fun2; rw [if_neg h], h']
    exact flun_impl_bad hi lo (by unfold okU at h; simpa using h) w

theorem flun_spec (hi lo : Int) (w : World) :
    Calls Try.prog 13 #[.int .i64 hi, .int .i64 lo] w fun r w' => r = .returned (.tuple #[flq (fun2 hi lo), .bool (okU hi lo)]) ∧ Kept 0 0 w w' := by
  by_cases h : okU hi lo = true
  · have h' := h
    unfold okU at h'
    simp only [decide_eq_true_eq] at h'
    obtain ⟨h1, h2, h3, h4⟩ := h'
    rw [show fun2 hi lo = fob (hi % 2147483648 * 4294967296 + lo) (decide (2147483648 ≤ hi)) by unfold fun2; rw [if_pos h], h]
    have aE : bits .and .i64 (hi / 1048576) 2047 = hi / 1048576 % 2048 := and_i64 _ 11 (by decide)
    have aH : bits .and .i64 hi 1048575 = hi % 1048576 := and_i64 _ 20 (by decide)
    have aN : (hi / 2147483648 == 1) = decide (2147483648 ≤ hi) := by
      by_cases g : 2147483648 ≤ hi
      · rw [decide_eq_true g, show hi / 2147483648 = 1 by omega]; rfl
      · rw [decide_eq_false g, show hi / 2147483648 = 0 by omega]; rfl
    unfold fob
    by_cases q1 : 9218868437227405312 < hi % 2147483648 * 4294967296 + lo
    · rw [if_pos q1]; exact flun_spec_nan hi lo (hi % 1048576) _ h1 (by omega) h3 (by omega) (by omega) (by omega) (aE.trans (by omega)) aH aN (by omega) w
    rw [if_neg q1]
    by_cases q2 : hi % 2147483648 * 4294967296 + lo = 9218868437227405312
    · rw [if_pos q2]; exact flun_spec_inf hi lo (hi % 1048576) _ h1 (by omega) h3 (by omega) (by omega) (by omega) (aE.trans (by omega)) aH aN (by omega) w
    rw [if_neg q2]
    by_cases q3 : hi % 2147483648 * 4294967296 + lo = 0
    · rw [if_pos q3]; exact flun_spec_nought hi lo (hi % 1048576) _ h1 (by omega) h3 (by omega) (by omega) (by omega) (aE.trans (by omega)) aH aN (by omega) w
    rw [if_neg q3]
    by_cases q4 : hi % 2147483648 * 4294967296 + lo < 4503599627370496
    · rw [if_pos q4, show (hi % 2147483648 * 4294967296 + lo) % 4503599627370496 = hi % 1048576 * 4294967296 + lo by omega]
      exact flun_spec_small hi lo (hi % 1048576) _ h1 (by omega) h3 (by omega) (by omega) (by omega) (aE.trans (by omega)) aH aN (by omega) w
    rw [if_neg q4, show 4503599627370496 + (hi % 2147483648 * 4294967296 + lo) % 4503599627370496 = hi % 1048576 * 4294967296 + lo + 4503599627370496 by omega,
      show (hi % 2147483648 * 4294967296 + lo) / 4503599627370496 - 1 - 1074 = hi / 1048576 % 2048 - 1 + -1074 by omega]
    exact flun_spec_full hi lo (hi % 1048576) (hi / 1048576 % 2048) _ h1 (by omega) h3 (by omega) (by omega) (by omega) aE aH aN (by omega) (by omega) w
  · have h' : okU hi lo = false := by simpa using h
    rw [show fun2 hi lo = (0, false, 0, 0) by unfold fun2; rw [if_neg h], h']
    exact flun_spec_bad hi lo (by unfold okU at h; simpa using h) w

end Go.Proofs.Ytbmogiegeffecaa
