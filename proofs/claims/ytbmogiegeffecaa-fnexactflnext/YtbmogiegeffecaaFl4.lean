/-
  Floats by their kinds: floatOfBits, told; FlUnpack and FlNext, the program's.
-/
import Derived.Test.YtbmogiegeffecaaFl3
namespace Go.Proofs.Ytbmogiegeffecaa
open Go.RowKit
set_option linter.unusedVariables false
set_option linter.unusedSimpArgs false

set_option maxHeartbeats 1000000 in
theorem told_num (n : Bool) (m e : Int) (w : World) :
    Calls Try.prog 43 #[.agg #[.bool n, .int .i64 m, .int .i64 e]] w fun r w' => r = .returned (flv 1 n m e) ∧ w' = (w.alloc (.cells #[.bool n, .int .i64 m, .int .i64 e] 46)).alloc (flc 1 n m e 25) := by
  go_enter Try.func43, Try.ntmps43
  go_wp2
  exact bodyPost_ret (v := flv 1 n m e) (by simp [results, Try.results43, go_sem]) rfl ⟨rfl, rfl⟩

set_option maxHeartbeats 1000000 in
theorem told_inf (n : Bool) (m e : Int) (w : World) :
    Calls Try.prog 44 #[.agg #[.bool n]] w fun r w' => r = .returned (flv 2 n 0 0) ∧ w' = (w.alloc (.cells #[.bool n] 48)).alloc (flc 2 n 0 0 25) := by
  go_enter Try.func44, Try.ntmps44
  go_wp2
  exact bodyPost_ret (v := flv 2 n 0 0) (by simp [results, Try.results44, go_sem]) rfl ⟨rfl, rfl⟩

set_option maxHeartbeats 1000000 in
theorem told_nan (n : Bool) (m e : Int) (w : World) :
    Calls Try.prog 45 #[.agg #[.bool n]] w fun r w' => r = .returned (flv 3 false 0 0) ∧ w' = (w.alloc (.cells #[.bool n] 49)).alloc (flc 3 false 0 0 25) := by
  go_enter Try.func45, Try.ntmps45
  go_wp2
  exact bodyPost_ret (v := flv 3 false 0 0) (by simp [results, Try.results45, go_sem]) rfl ⟨rfl, rfl⟩

set_option maxHeartbeats 1000000 in
theorem told_nought (n : Bool) (m e : Int) (w : World) :
    Calls Try.prog 46 #[.agg #[.bool n]] w fun r w' => r = .returned (flv 0 n 0 0) ∧ w' = (w.alloc (.cells #[.bool n] 50)).alloc (flc 0 n 0 0 25) := by
  go_enter Try.func46, Try.ntmps46
  go_wp2
  exact bodyPost_ret (v := flv 0 n 0 0) (by simp [results, Try.results46, go_sem]) rfl ⟨rfl, rfl⟩

set_option maxHeartbeats 1000000 in
theorem fob_nan (b : Int) (n : Bool) (h0 : 0 ≤ b) (h1 : b ≤ 9223372036854775807) (h2 : 9218868437227405312 < b) (w : World) :
    Calls Try.prog 23 #[.int .i64 b, .bool n] w fun r w' => r = .returned (.iface 49 (.agg #[.bool false])) ∧ w' = w.alloc (.cells #[.bool n] 44) := by
  go_enter Try.func23, Try.ntmps23
  go_wp2
  all_goals first | (go_ret; exact ⟨rfl, rfl⟩) | (exfalso; simp_all; omega)

set_option maxHeartbeats 1000000 in
theorem fob_inf (b : Int) (n : Bool) (h0 : 0 ≤ b) (h1 : b ≤ 9223372036854775807) (h2 : b = 9218868437227405312) (w : World) :
    Calls Try.prog 23 #[.int .i64 b, .bool n] w fun r w' => r = .returned (.iface 48 (.agg #[.bool n])) ∧ w' = w.alloc (.cells #[.bool n] 44) := by
  subst h2
  go_enter Try.func23, Try.ntmps23
  go_wp2
  all_goals first | (go_ret; exact ⟨rfl, rfl⟩) | (exfalso; simp_all; omega)

set_option maxHeartbeats 1000000 in
theorem fob_nought (b : Int) (n : Bool) (h0 : 0 ≤ b) (h1 : b ≤ 9223372036854775807) (h2 : b = 0) (w : World) :
    Calls Try.prog 23 #[.int .i64 b, .bool n] w fun r w' => r = .returned (.iface 50 (.agg #[.bool n])) ∧ w' = w.alloc (.cells #[.bool n] 44) := by
  subst h2
  go_enter Try.func23, Try.ntmps23
  go_wp2
  all_goals first | (go_ret; exact ⟨rfl, rfl⟩) | (exfalso; simp_all; omega)

set_option maxHeartbeats 1000000 in
theorem fob_small (b : Int) (n : Bool) (h0 : 0 ≤ b) (h1 : b ≤ 9223372036854775807) (h2 : 0 < b) (h3 : b < 4503599627370496) (w : World) :
    Calls Try.prog 23 #[.int .i64 b, .bool n] w fun r w' => r = .returned (.iface 46 (.agg #[.bool n, .int .i64 (b % 4503599627370496), .int .i64 (-1074)])) ∧ w' = w.alloc (.cells #[.bool n] 44) := by
  go_enter Try.func23, Try.ntmps23
  go_wp2
  all_goals first | (go_ret; exact ⟨rfl, rfl⟩) | (exfalso; simp_all; omega)

set_option maxHeartbeats 1000000 in
theorem fob_full (b : Int) (n : Bool) (h0 : 0 ≤ b) (h1 : b ≤ 9223372036854775807) (h2 : 4503599627370496 ≤ b) (h3 : b < 9218868437227405312) (w : World) :
    Calls Try.prog 23 #[.int .i64 b, .bool n] w fun r w' => r = .returned (.iface 46 (.agg #[.bool n, .int .i64 (4503599627370496 + b % 4503599627370496), .int .i64 (b / 4503599627370496 - 1 - 1074)])) ∧ w' = w.alloc (.cells #[.bool n] 44) := by
  go_enter Try.func23, Try.ntmps23
  go_wp2
  all_goals first | (go_ret; exact ⟨rfl, rfl⟩) | (exfalso; simp_all; omega)

theorem inv_num (n : Bool) (m e : Int) (w : World) : (method 169 46 (.agg #[.bool n, .int .i64 m, .int .i64 e]) "loop.example/g00382/impl.told").run Try.prog w = .ok (43, .agg #[.bool n, .int .i64 m, .int .i64 e]) w := by kernel_rfl

theorem inv_inf (n : Bool) (m e : Int) (w : World) : (method 169 48 (.agg #[.bool n]) "loop.example/g00382/impl.told").run Try.prog w = .ok (44, .agg #[.bool n]) w := by kernel_rfl

theorem inv_nan (n : Bool) (m e : Int) (w : World) : (method 169 49 (.agg #[.bool n]) "loop.example/g00382/impl.told").run Try.prog w = .ok (45, .agg #[.bool n]) w := by kernel_rfl

theorem inv_nought (n : Bool) (m e : Int) (w : World) : (method 169 50 (.agg #[.bool n]) "loop.example/g00382/impl.told").run Try.prog w = .ok (46, .agg #[.bool n]) w := by kernel_rfl

set_option maxHeartbeats 1000000 in
theorem flun_impl_nan (hi lo : Int) (h1 : 0 ≤ hi) (h2 : hi ≤ 4294967295) (h3 : 0 ≤ lo) (h4 : lo ≤ 4294967295) (h5 : 9218868437227405312 < (hi % 2147483648 * 4294967296 + lo)) (w : World) :
    Calls Try.prog 14 #[.int .i64 hi, .int .i64 lo] w fun r w' => r = .returned (.tuple #[flv 3 false 0 0, .bool true]) ∧ Kept 0 0 w w' := by
  have hm := inv_nan false 0 0
  go_enter Try.func14, Try.ntmps14
  go_wp2_with (first
    | (go_at_call 23; refine (fob_nan _ _ (by omega) (by omega) h5 _).mono ?_; rintro r w1 ⟨rfl, rfl⟩)
    | (go_at_call 45; refine (told_nan false 0 0 _).mono ?_; rintro r w1 ⟨rfl, rfl⟩))
  exact bodyPost_ret (v := .tuple #[flv 3 false 0 0, .bool true]) (by simp [results, Try.results14, go_sem]) rfl ⟨rfl, by repeat first | exact Kept.refl 0 0 _ | apply Kept.alloc⟩

set_option maxHeartbeats 1000000 in
theorem flun_impl_inf (hi lo : Int) (h1 : 0 ≤ hi) (h2 : hi ≤ 4294967295) (h3 : 0 ≤ lo) (h4 : lo ≤ 4294967295) (h5 : (hi % 2147483648 * 4294967296 + lo) = 9218868437227405312) (w : World) :
    Calls Try.prog 14 #[.int .i64 hi, .int .i64 lo] w fun r w' => r = .returned (.tuple #[flv 2 (decide (2147483648 ≤ hi)) 0 0, .bool true]) ∧ Kept 0 0 w w' := by
  have hm := inv_inf (decide (2147483648 ≤ hi)) 0 0
  replace h5 := hide h5
  go_enter Try.func14, Try.ntmps14
  go_wp2_with (first
    | (go_at_call 23; refine (fob_inf _ _ (by omega) (by omega) (unhide h5) _).mono ?_; rintro r w1 ⟨rfl, rfl⟩)
    | (go_at_call 44; refine (told_inf (decide (2147483648 ≤ hi)) 0 0 _).mono ?_; rintro r w1 ⟨rfl, rfl⟩))
  exact bodyPost_ret (v := .tuple #[flv 2 (decide (2147483648 ≤ hi)) 0 0, .bool true]) (by simp [results, Try.results14, go_sem]) rfl ⟨rfl, by repeat first | exact Kept.refl 0 0 _ | apply Kept.alloc⟩

set_option maxHeartbeats 1000000 in
theorem flun_impl_nought (hi lo : Int) (h1 : 0 ≤ hi) (h2 : hi ≤ 4294967295) (h3 : 0 ≤ lo) (h4 : lo ≤ 4294967295) (h5 : (hi % 2147483648 * 4294967296 + lo) = 0) (w : World) :
    Calls Try.prog 14 #[.int .i64 hi, .int .i64 lo] w fun r w' => r = .returned (.tuple #[flv 0 (decide (2147483648 ≤ hi)) 0 0, .bool true]) ∧ Kept 0 0 w w' := by
  have hm := inv_nought (decide (2147483648 ≤ hi)) 0 0
  replace h5 := hide h5
  go_enter Try.func14, Try.ntmps14
  go_wp2_with (first
    | (go_at_call 23; refine (fob_nought _ _ (by omega) (by omega) (unhide h5) _).mono ?_; rintro r w1 ⟨rfl, rfl⟩)
    | (go_at_call 46; refine (told_nought (decide (2147483648 ≤ hi)) 0 0 _).mono ?_; rintro r w1 ⟨rfl, rfl⟩))
  exact bodyPost_ret (v := .tuple #[flv 0 (decide (2147483648 ≤ hi)) 0 0, .bool true]) (by simp [results, Try.results14, go_sem]) rfl ⟨rfl, by repeat first | exact Kept.refl 0 0 _ | apply Kept.alloc⟩

set_option maxHeartbeats 1000000 in
theorem flun_impl_small (hi lo : Int) (h1 : 0 ≤ hi) (h2 : hi ≤ 4294967295) (h3 : 0 ≤ lo) (h4 : lo ≤ 4294967295) (h5 : 0 < (hi % 2147483648 * 4294967296 + lo)) (h6 : (hi % 2147483648 * 4294967296 + lo) < 4503599627370496) (w : World) :
    Calls Try.prog 14 #[.int .i64 hi, .int .i64 lo] w fun r w' => r = .returned (.tuple #[flv 1 (decide (2147483648 ≤ hi)) ((hi % 2147483648 * 4294967296 + lo) % 4503599627370496) (-1074), .bool true]) ∧ Kept 0 0 w w' := by
  have hm := inv_num (decide (2147483648 ≤ hi)) ((hi % 2147483648 * 4294967296 + lo) % 4503599627370496) (-1074)
  go_enter Try.func14, Try.ntmps14
  go_wp2_with (first
    | (go_at_call 23; refine (fob_small _ _ (by omega) (by omega) h5 h6 _).mono ?_; rintro r w1 ⟨rfl, rfl⟩)
    | (go_at_call 43; refine (told_num (decide (2147483648 ≤ hi)) ((hi % 2147483648 * 4294967296 + lo) % 4503599627370496) (-1074) _).mono ?_; rintro r w1 ⟨rfl, rfl⟩))
  exact bodyPost_ret (v := .tuple #[flv 1 (decide (2147483648 ≤ hi)) ((hi % 2147483648 * 4294967296 + lo) % 4503599627370496) (-1074), .bool true]) (by simp [results, Try.results14, go_sem]) rfl ⟨rfl, by repeat first | exact Kept.refl 0 0 _ | apply Kept.alloc⟩

set_option maxHeartbeats 1000000 in
theorem flun_impl_full (hi lo : Int) (h1 : 0 ≤ hi) (h2 : hi ≤ 4294967295) (h3 : 0 ≤ lo) (h4 : lo ≤ 4294967295) (h5 : 4503599627370496 ≤ (hi % 2147483648 * 4294967296 + lo)) (h6 : (hi % 2147483648 * 4294967296 + lo) < 9218868437227405312) (w : World) :
    Calls Try.prog 14 #[.int .i64 hi, .int .i64 lo] w fun r w' => r = .returned (.tuple #[flv 1 (decide (2147483648 ≤ hi)) (4503599627370496 + (hi % 2147483648 * 4294967296 + lo) % 4503599627370496) ((hi % 2147483648 * 4294967296 + lo) / 4503599627370496 - 1 - 1074), .bool true]) ∧ Kept 0 0 w w' := by
  have hm := inv_num (decide (2147483648 ≤ hi)) (4503599627370496 + (hi % 2147483648 * 4294967296 + lo) % 4503599627370496) ((hi % 2147483648 * 4294967296 + lo) / 4503599627370496 - 1 - 1074)
  go_enter Try.func14, Try.ntmps14
  go_wp2_with (first
    | (go_at_call 23; refine (fob_full _ _ (by omega) (by omega) h5 h6 _).mono ?_; rintro r w1 ⟨rfl, rfl⟩)
    | (go_at_call 43; refine (told_num (decide (2147483648 ≤ hi)) (4503599627370496 + (hi % 2147483648 * 4294967296 + lo) % 4503599627370496) ((hi % 2147483648 * 4294967296 + lo) / 4503599627370496 - 1 - 1074) _).mono ?_; rintro r w1 ⟨rfl, rfl⟩))
  exact bodyPost_ret (v := .tuple #[flv 1 (decide (2147483648 ≤ hi)) (4503599627370496 + (hi % 2147483648 * 4294967296 + lo) % 4503599627370496) ((hi % 2147483648 * 4294967296 + lo) / 4503599627370496 - 1 - 1074), .bool true]) (by simp [results, Try.results14, go_sem]) rfl ⟨rfl, by repeat first | exact Kept.refl 0 0 _ | apply Kept.alloc⟩

set_option maxHeartbeats 1000000 in
theorem flun_impl_bad (hi lo : Int) (h : ¬ (0 ≤ hi ∧ hi ≤ 4294967295 ∧ 0 ≤ lo ∧ lo ≤ 4294967295)) (w : World) :
    Calls Try.prog 14 #[.int .i64 hi, .int .i64 lo] w fun r w' => r = .returned (.tuple #[flv 0 false 0 0, .bool false]) ∧ Kept 0 0 w w' := by
  go_enter Try.func14, Try.ntmps14
  go_wp2_with fail
  all_goals first
    | exact bodyPost_ret (v := .tuple #[flv 0 false 0 0, .bool false]) (by simp [results, Try.results14, go_sem]) rfl ⟨rfl, by repeat first | exact Kept.refl 0 0 _ | apply Kept.alloc⟩
    | (exfalso; simp_all; omega)
    | trace_state

end Go.Proofs.Ytbmogiegeffecaa
