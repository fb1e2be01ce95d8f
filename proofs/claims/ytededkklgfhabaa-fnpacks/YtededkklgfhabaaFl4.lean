/-
  Floats by their kinds: floatOfBits, told; FlUnpack and FlNext, the program's.
-/
import Derived.Test.YtededkklgfhabaaFl3
namespace Go.Proofs.Ytededkklgfhabaa
open Go.RowKit
set_option linter.unusedVariables false
set_option linter.unusedSimpArgs false

set_option maxHeartbeats 1000000 in
theorem told_num (n : Bool) (m e : Int) (w : World) :
    Calls Try.prog 65 #[.agg #[.bool n, .int .i64 m, .int .i64 e]] w fun r w' => r = .returned (flv 1 n m e) ∧ w' = (w.alloc (.cells #[.bool n, .int .i64 m, .int .i64 e] 59)).alloc (flc 1 n m e 24) := by
  go_enter Try.func65, Try.ntmps65
  go_wp2
  exact bodyPost_ret (v := flv 1 n m e) (by simp [results, Try.results65, go_sem]) rfl ⟨rfl, rfl⟩

set_option maxHeartbeats 1000000 in
theorem told_inf (n : Bool) (m e : Int) (w : World) :
    Calls Try.prog 66 #[.agg #[.bool n]] w fun r w' => r = .returned (flv 2 n 0 0) ∧ w' = (w.alloc (.cells #[.bool n] 61)).alloc (flc 2 n 0 0 24) := by
  go_enter Try.func66, Try.ntmps66
  go_wp2
  exact bodyPost_ret (v := flv 2 n 0 0) (by simp [results, Try.results66, go_sem]) rfl ⟨rfl, rfl⟩

set_option maxHeartbeats 1000000 in
theorem told_nan (n : Bool) (m e : Int) (w : World) :
    Calls Try.prog 67 #[.agg #[.bool n]] w fun r w' => r = .returned (flv 3 false 0 0) ∧ w' = (w.alloc (.cells #[.bool n] 62)).alloc (flc 3 false 0 0 24) := by
  go_enter Try.func67, Try.ntmps67
  go_wp2
  exact bodyPost_ret (v := flv 3 false 0 0) (by simp [results, Try.results67, go_sem]) rfl ⟨rfl, rfl⟩

set_option maxHeartbeats 1000000 in
theorem told_nought (n : Bool) (m e : Int) (w : World) :
    Calls Try.prog 68 #[.agg #[.bool n]] w fun r w' => r = .returned (flv 0 n 0 0) ∧ w' = (w.alloc (.cells #[.bool n] 63)).alloc (flc 0 n 0 0 24) := by
  go_enter Try.func68, Try.ntmps68
  go_wp2
  exact bodyPost_ret (v := flv 0 n 0 0) (by simp [results, Try.results68, go_sem]) rfl ⟨rfl, rfl⟩

set_option maxHeartbeats 1000000 in
theorem fob_nan (b : Int) (n : Bool) (h0 : 0 ≤ b) (h1 : b ≤ 9223372036854775807) (h2 : 9218868437227405312 < b) (w : World) :
    Calls Try.prog 16 #[.int .i64 b, .bool n] w fun r w' => r = .returned (.iface 62 (.agg #[.bool false])) ∧ w' = w.alloc (.cells #[.bool n] 57) := by
  go_enter Try.func16, Try.ntmps16
  go_wp2
  all_goals first | (go_ret; exact ⟨rfl, rfl⟩) | (exfalso; simp_all; omega)

set_option maxHeartbeats 1000000 in
theorem fob_inf (b : Int) (n : Bool) (h0 : 0 ≤ b) (h1 : b ≤ 9223372036854775807) (h2 : b = 9218868437227405312) (w : World) :
    Calls Try.prog 16 #[.int .i64 b, .bool n] w fun r w' => r = .returned (.iface 61 (.agg #[.bool n])) ∧ w' = w.alloc (.cells #[.bool n] 57) := by
  subst h2
  go_enter Try.func16, Try.ntmps16
  go_wp2
  all_goals first | (go_ret; exact ⟨rfl, rfl⟩) | (exfalso; simp_all; omega)

set_option maxHeartbeats 1000000 in
theorem fob_nought (b : Int) (n : Bool) (h0 : 0 ≤ b) (h1 : b ≤ 9223372036854775807) (h2 : b = 0) (w : World) :
    Calls Try.prog 16 #[.int .i64 b, .bool n] w fun r w' => r = .returned (.iface 63 (.agg #[.bool n])) ∧ w' = w.alloc (.cells #[.bool n] 57) := by
  subst h2
  go_enter Try.func16, Try.ntmps16
  go_wp2
  all_goals first | (go_ret; exact ⟨rfl, rfl⟩) | (exfalso; simp_all; omega)

set_option maxHeartbeats 1000000 in
theorem fob_small (b : Int) (n : Bool) (h0 : 0 ≤ b) (h1 : b ≤ 9223372036854775807) (h2 : 0 < b) (h3 : b < 4503599627370496) (w : World) :
    Calls Try.prog 16 #[.int .i64 b, .bool n] w fun r w' => r = .returned (.iface 59 (.agg #[.bool n, .int .i64 (b % 4503599627370496), .int .i64 (-1074)])) ∧ w' = w.alloc (.cells #[.bool n] 57) := by
  go_enter Try.func16, Try.ntmps16
  go_wp2
  all_goals first | (go_ret; exact ⟨rfl, rfl⟩) | (exfalso; simp_all; omega)

set_option maxHeartbeats 1000000 in
theorem fob_full (b : Int) (n : Bool) (h0 : 0 ≤ b) (h1 : b ≤ 9223372036854775807) (h2 : 4503599627370496 ≤ b) (h3 : b < 9218868437227405312) (w : World) :
    Calls Try.prog 16 #[.int .i64 b, .bool n] w fun r w' => r = .returned (.iface 59 (.agg #[.bool n, .int .i64 (4503599627370496 + b % 4503599627370496), .int .i64 (b / 4503599627370496 - 1 - 1074)])) ∧ w' = w.alloc (.cells #[.bool n] 57) := by
  go_enter Try.func16, Try.ntmps16
  go_wp2
  all_goals first | (go_ret; exact ⟨rfl, rfl⟩) | (exfalso; simp_all; omega)

theorem inv_num (n : Bool) (m e : Int) (w : World) : (method 209 59 (.agg #[.bool n, .int .i64 m, .int .i64 e]) "loop.example/g00382/impl.told").run Try.prog w = .ok (65, .agg #[.bool n, .int .i64 m, .int .i64 e]) w := by kernel_rfl

theorem inv_inf (n : Bool) (m e : Int) (w : World) : (method 209 61 (.agg #[.bool n]) "loop.example/g00382/impl.told").run Try.prog w = .ok (66, .agg #[.bool n]) w := by kernel_rfl

theorem inv_nan (n : Bool) (m e : Int) (w : World) : (method 209 62 (.agg #[.bool n]) "loop.example/g00382/impl.told").run Try.prog w = .ok (67, .agg #[.bool n]) w := by kernel_rfl

theorem inv_nought (n : Bool) (m e : Int) (w : World) : (method 209 63 (.agg #[.bool n]) "loop.example/g00382/impl.told").run Try.prog w = .ok (68, .agg #[.bool n]) w := by kernel_rfl

set_option maxHeartbeats 1000000 in
theorem flun_impl_nan (hi lo : Int) (h1 : 0 ≤ hi) (h2 : hi ≤ 4294967295) (h3 : 0 ≤ lo) (h4 : lo ≤ 4294967295) (h5 : 9218868437227405312 < (hi % 2147483648 * 4294967296 + lo)) (w : World) :
    Calls Try.prog 8 #[.int .i64 hi, .int .i64 lo] w fun r w' => r = .returned (.tuple #[flv 3 false 0 0, .bool true]) ∧ Kept 0 0 w w' := by
  have hm := inv_nan false 0 0
  go_enter Try.func8, Try.ntmps8
  go_wp2_with (first
    | (go_at_call 16; refine (fob_nan _ _ (by omega) (by omega) h5 _).mono ?_; rintro r w1 ⟨rfl, rfl⟩)
    | (go_at_call 67; refine (told_nan false 0 0 _).mono ?_; rintro r w1 ⟨rfl, rfl⟩))
  exact bodyPost_ret (v := .tuple #[flv 3 false 0 0, .bool true]) (by simp [results, Try.results8, go_sem]) rfl ⟨rfl, by repeat first | exact Kept.refl 0 0 _ | apply Kept.alloc⟩

set_option maxHeartbeats 1000000 in
theorem flun_impl_inf (hi lo : Int) (h1 : 0 ≤ hi) (h2 : hi ≤ 4294967295) (h3 : 0 ≤ lo) (h4 : lo ≤ 4294967295) (h5 : (hi % 2147483648 * 4294967296 + lo) = 9218868437227405312) (w : World) :
    Calls Try.prog 8 #[.int .i64 hi, .int .i64 lo] w fun r w' => r = .returned (.tuple #[flv 2 (decide (2147483648 ≤ hi)) 0 0, .bool true]) ∧ Kept 0 0 w w' := by
  have hm := inv_inf (decide (2147483648 ≤ hi)) 0 0
  replace h5 := hide h5
  go_enter Try.func8, Try.ntmps8
  go_wp2_with (first
    | (go_at_call 16; refine (fob_inf _ _ (by omega) (by omega) (unhide h5) _).mono ?_; rintro r w1 ⟨rfl, rfl⟩)
    | (go_at_call 66; refine (told_inf (decide (2147483648 ≤ hi)) 0 0 _).mono ?_; rintro r w1 ⟨rfl, rfl⟩))
  exact bodyPost_ret (v := .tuple #[flv 2 (decide (2147483648 ≤ hi)) 0 0, .bool true]) (by simp [results, Try.results8, go_sem]) rfl ⟨rfl, by repeat first | exact Kept.refl 0 0 _ | apply Kept.alloc⟩

set_option maxHeartbeats 1000000 in
theorem flun_impl_nought (hi lo : Int) (h1 : 0 ≤ hi) (h2 : hi ≤ 4294967295) (h3 : 0 ≤ lo) (h4 : lo ≤ 4294967295) (h5 : (hi % 2147483648 * 4294967296 + lo) = 0) (w : World) :
    Calls Try.prog 8 #[.int .i64 hi, .int .i64 lo] w fun r w' => r = .returned (.tuple #[flv 0 (decide (2147483648 ≤ hi)) 0 0, .bool true]) ∧ Kept 0 0 w w' := by
  have hm := inv_nought (decide (2147483648 ≤ hi)) 0 0
  replace h5 := hide h5
  go_enter Try.func8, Try.ntmps8
  go_wp2_with (first
    | (go_at_call 16; refine (fob_nought _ _ (by omega) (by omega) (unhide h5) _).mono ?_; rintro r w1 ⟨rfl, rfl⟩)
    | (go_at_call 68; refine (told_nought (decide (2147483648 ≤ hi)) 0 0 _).mono ?_; rintro r w1 ⟨rfl, rfl⟩))
  exact bodyPost_ret (v := .tuple #[flv 0 (decide (2147483648 ≤ hi)) 0 0, .bool true]) (by simp [results, Try.results8, go_sem]) rfl ⟨rfl, by repeat first | exact Kept.refl 0 0 _ | apply Kept.alloc⟩

set_option maxHeartbeats 1000000 in
theorem flun_impl_small (hi lo : Int) (h1 : 0 ≤ hi) (h2 : hi ≤ 4294967295) (h3 : 0 ≤ lo) (h4 : lo ≤ 4294967295) (h5 : 0 < (hi % 2147483648 * 4294967296 + lo)) (h6 : (hi % 2147483648 * 4294967296 + lo) < 4503599627370496) (w : World) :
    Calls Try.prog 8 #[.int .i64 hi, .int .i64 lo] w fun r w' => r = .returned (.tuple #[flv 1 (decide (2147483648 ≤ hi)) ((hi % 2147483648 * 4294967296 + lo) % 4503599627370496) (-1074), .bool true]) ∧ Kept 0 0 w w' := by
  have hm := inv_num (decide (2147483648 ≤ hi)) ((hi % 2147483648 * 4294967296 + lo) % 4503599627370496) (-1074)
  go_enter Try.func8, Try.ntmps8
  go_wp2_with (first
    | (go_at_call 16; refine (fob_small _ _ (by omega) (by omega) h5 h6 _).mono ?_; rintro r w1 ⟨rfl, rfl⟩)
    | (go_at_call 65; refine (told_num (decide (2147483648 ≤ hi)) ((hi % 2147483648 * 4294967296 + lo) % 4503599627370496) (-1074) _).mono ?_; rintro r w1 ⟨rfl, rfl⟩))
  exact bodyPost_ret (v := .tuple #[flv 1 (decide (2147483648 ≤ hi)) ((hi % 2147483648 * 4294967296 + lo) % 4503599627370496) (-1074), .bool true]) (by simp [results, Try.results8, go_sem]) rfl ⟨rfl, by repeat first | exact Kept.refl 0 0 _ | apply Kept.alloc⟩

set_option maxHeartbeats 1000000 in
theorem flun_impl_full (hi lo : Int) (h1 : 0 ≤ hi) (h2 : hi ≤ 4294967295) (h3 : 0 ≤ lo) (h4 : lo ≤ 4294967295) (h5 : 4503599627370496 ≤ (hi % 2147483648 * 4294967296 + lo)) (h6 : (hi % 2147483648 * 4294967296 + lo) < 9218868437227405312) (w : World) :
    Calls Try.prog 8 #[.int .i64 hi, .int .i64 lo] w fun r w' => r = .returned (.tuple #[flv 1 (decide (2147483648 ≤ hi)) (4503599627370496 + (hi % 2147483648 * 4294967296 + lo) % 4503599627370496) ((hi % 2147483648 * 4294967296 + lo) / 4503599627370496 - 1 - 1074), .bool true]) ∧ Kept 0 0 w w' := by
  have hm := inv_num (decide (2147483648 ≤ hi)) (4503599627370496 + (hi % 2147483648 * 4294967296 + lo) % 4503599627370496) ((hi % 2147483648 * 4294967296 + lo) / 4503599627370496 - 1 - 1074)
  go_enter Try.func8, Try.ntmps8
  go_wp2_with (first
    | (go_at_call 16; refine (fob_full _ _ (by omega) (by omega) h5 h6 _).mono ?_; rintro r w1 ⟨rfl, rfl⟩)
    | (go_at_call 65; refine (told_num (decide (2147483648 ≤ hi)) (4503599627370496 + (hi % 2147483648 * 4294967296 + lo) % 4503599627370496) ((hi % 2147483648 * 4294967296 + lo) / 4503599627370496 - 1 - 1074) _).mono ?_; rintro r w1 ⟨rfl, rfl⟩))
  exact bodyPost_ret (v := .tuple #[flv 1 (decide (2147483648 ≤ hi)) (4503599627370496 + (hi % 2147483648 * 4294967296 + lo) % 4503599627370496) ((hi % 2147483648 * 4294967296 + lo) / 4503599627370496 - 1 - 1074), .bool true]) (by simp [results, Try.results8, go_sem]) rfl ⟨rfl, by repeat first | exact Kept.refl 0 0 _ | apply Kept.alloc⟩

set_option maxHeartbeats 1000000 in
theorem flun_impl_bad (hi lo : Int) (h : ¬ (0 ≤ hi ∧ hi ≤ 4294967295 ∧ 0 ≤ lo ∧ lo ≤ 4294967295)) (w : World) :
    Calls Try.prog 8 #[.int .i64 hi, .int .i64 lo] w fun r w' => r = .returned (.tuple #[flv 0 false 0 0, .bool false]) ∧ Kept 0 0 w w' := by
  go_enter Try.func8, Try.ntmps8
  go_wp2_with fail
  all_goals first
    | exact bodyPost_ret (v := .tuple #[flv 0 false 0 0, .bool false]) (by simp [results, Try.results8, go_sem]) rfl ⟨rfl, by repeat first | exact Kept.refl 0 0 _ | apply Kept.alloc⟩
    | (exfalso; simp_all; omega)
    | trace_state

end Go.Proofs.Ytededkklgfhabaa
