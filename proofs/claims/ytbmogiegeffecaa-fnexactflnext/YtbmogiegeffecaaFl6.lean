/-
  FlNext, the program's.
-/
import Derived.Test.YtbmogiegeffecaaFl5
namespace Go.Proofs.Ytbmogiegeffecaa
open Go.RowKit
set_option linter.unusedVariables false
set_option linter.unusedSimpArgs false

theorem sgn_num (n : Bool) (m e : Int) (w : World) : (method 169 46 (.agg #[.bool n, .int .i64 m, .int .i64 e]) "loop.example/g00382/impl.hasSign").run Try.prog w = .ok (42, .agg #[.bool n]) w := by kernel_rfl

theorem sgn_inf (n : Bool) (m e : Int) (w : World) : (method 169 48 (.agg #[.bool n]) "loop.example/g00382/impl.hasSign").run Try.prog w = .ok (42, .agg #[.bool n]) w := by kernel_rfl

theorem sgn_nought (n : Bool) (m e : Int) (w : World) : (method 169 50 (.agg #[.bool n]) "loop.example/g00382/impl.hasSign").run Try.prog w = .ok (42, .agg #[.bool n]) w := by kernel_rfl

set_option maxHeartbeats 2000000 in
theorem flnx_impl_no (k : Int) (n : Bool) (m e : Int) (h : flok k n m e = false) (w : World) :
    Calls Try.prog 17 #[flv k n m e] w fun r w' => r = .returned (flv 3 false 0 0) ∧ Kept 0 0 w w' := by
  go_enter Try.func17, Try.ntmps17
  go_wp2_with (first
    | (go_at_call 10; refine (flok_impl_eq h _).mono ?_; rintro r w1 ⟨rfl, rfl⟩)
    | go_in)
  exact bodyPost_ret (v := flv 3 false 0 0) (by simp [results, Try.results17, go_sem]) rfl ⟨rfl, by repeat first | exact Kept.refl 0 0 _ | apply Kept.alloc⟩

set_option maxHeartbeats 2000000 in
theorem flnx_impl_nan (h : flok 3 false 0 0 = true) (w : World) :
    Calls Try.prog 17 #[flv 3 false 0 0] w fun r w' => r = .returned (flv 3 false 0 0) ∧ Kept 0 0 w w' := by
  go_enter Try.func17, Try.ntmps17
  go_wp2_with (first
    | (go_at_call 10; refine (flok_impl_eq h _).mono ?_; rintro r w1 ⟨rfl, rfl⟩)
    | go_in)
  exact bodyPost_ret (v := flv 3 false 0 0) (by simp [results, Try.results17, go_sem]) rfl ⟨rfl, by repeat first | exact Kept.refl 0 0 _ | apply Kept.alloc⟩

set_option maxHeartbeats 2000000 in
theorem flnx_impl_infp (h : flok 2 false 0 0 = true) (w : World) :
    Calls Try.prog 17 #[flv 2 false 0 0] w fun r w' => r = .returned (flv 2 false 0 0) ∧ Kept 0 0 w w' := by
  go_enter Try.func17, Try.ntmps17
  go_wp2_with (first
    | (go_at_call 10; refine (flok_impl_eq h _).mono ?_; rintro r w1 ⟨rfl, rfl⟩)
    | go_in)
  exact bodyPost_ret (v := flv 2 false 0 0) (by simp [results, Try.results17, go_sem]) rfl ⟨rfl, by repeat first | exact Kept.refl 0 0 _ | apply Kept.alloc⟩

set_option maxHeartbeats 2000000 in
theorem flnx_impl_infn (h : flok 2 true 0 0 = true) (w : World) :
    Calls Try.prog 17 #[flv 2 true 0 0] w fun r w' => r = .returned (flv 1 true 9007199254740991 971) ∧ Kept 0 0 w w' := by
  have a0 := fun w => as_inf_num true 0 0 w
  have a1 := fun w => as_inf_inf true 0 0 w
  have a2 := fun w => as_inf_nan true 0 0 w
  have a3 := sgn_inf true 0 0
  have a4 := inv_num true 9007199254740991 971
  go_enter Try.func17, Try.ntmps17
  go_wp2_with (first
    | (go_at_call 10; refine (flok_impl_eq h _).mono ?_; rintro r w1 ⟨rfl, rfl⟩)
    | (go_at_call 23; refine (fob_full 9218868437227405311 true (by omega) (by omega) (by omega) (by omega) _).mono ?_; rintro r w1 ⟨rfl, rfl⟩)
    | (go_at_call 43; refine (told_num true 9007199254740991 971 _).mono ?_; rintro r w1 ⟨rfl, rfl⟩)
    | go_in)
  exact bodyPost_ret (v := flv 1 true 9007199254740991 971) (by simp [results, Try.results17, go_sem]) rfl ⟨rfl, by repeat first | exact Kept.refl 0 0 _ | apply Kept.alloc⟩

set_option maxHeartbeats 2000000 in
theorem flnx_impl_noughtn (h : flok 0 true 0 0 = true) (w : World) :
    Calls Try.prog 17 #[flv 0 true 0 0] w fun r w' => r = .returned (flv 1 false 1 (-1074)) ∧ Kept 0 0 w w' := by
  have a0 := fun w => as_nought_num true 0 0 w
  have a1 := fun w => as_nought_inf true 0 0 w
  have a2 := fun w => as_nought_nan true 0 0 w
  have a3 := sgn_nought true 0 0
  have a4 := inv_num false 1 (-1074)
  go_enter Try.func17, Try.ntmps17
  go_wp2_with (first
    | (go_at_call 10; refine (flok_impl_eq h _).mono ?_; rintro r w1 ⟨rfl, rfl⟩)
    | (go_at_call 23; refine (fob_small 1 false (by omega) (by omega) (by omega) (by omega) _).mono ?_; rintro r w1 ⟨rfl, rfl⟩)
    | (go_at_call 43; refine (told_num false 1 (-1074) _).mono ?_; rintro r w1 ⟨rfl, rfl⟩)
    | go_in)
  exact bodyPost_ret (v := flv 1 false 1 (-1074)) (by simp [results, Try.results17, go_sem]) rfl ⟨rfl, by repeat first | exact Kept.refl 0 0 _ | apply Kept.alloc⟩

set_option maxHeartbeats 2000000 in
theorem flnx_impl_noughtp (h : flok 0 false 0 0 = true) (w : World) :
    Calls Try.prog 17 #[flv 0 false 0 0] w fun r w' => r = .returned (flv 1 false 1 (-1074)) ∧ Kept 0 0 w w' := by
  have a0 := fun w => as_nought_num false 0 0 w
  have a1 := fun w => as_nought_inf false 0 0 w
  have a2 := fun w => as_nought_nan false 0 0 w
  have a3 := sgn_nought false 0 0
  have a4 := inv_num false 1 (-1074)
  go_enter Try.func17, Try.ntmps17
  go_wp2_with (first
    | (go_at_call 10; refine (flok_impl_eq h _).mono ?_; rintro r w1 ⟨rfl, rfl⟩)
    | (go_at_call 23; refine (fob_small 1 false (by omega) (by omega) (by omega) (by omega) _).mono ?_; rintro r w1 ⟨rfl, rfl⟩)
    | (go_at_call 43; refine (told_num false 1 (-1074) _).mono ?_; rintro r w1 ⟨rfl, rfl⟩)
    | go_in)
  exact bodyPost_ret (v := flv 1 false 1 (-1074)) (by simp [results, Try.results17, go_sem]) rfl ⟨rfl, by repeat first | exact Kept.refl 0 0 _ | apply Kept.alloc⟩

set_option maxHeartbeats 2000000 in
theorem flnx_impl_pinf (m e : Int) (h : flok 1 false m e = true) (h1 : -1074 ≤ e) (h2 : e ≤ 971) (h3 : 1 ≤ m) (h4 : m ≤ 9007199254740991) (h5 : Hid ((((e + 1074) * 4503599627370496 + m) + 1) = 9218868437227405312)) (w : World) :
    Calls Try.prog 17 #[flv 1 false m e] w fun r w' => r = .returned (flv 2 false 0 0) ∧ Kept 0 0 w w' := by
  have a0 := fun w => as_num_num false m e w
  have a1 := fun w => as_num_inf false m e w
  have a2 := fun w => as_num_nan false m e w
  have a3 := sgn_num false m e
  have a4 := inv_inf false 0 0
  have a5 : decide ((e + 1074) * 4503599627370496 + m + 1 ≤ 0) = false := decide_eq_false (by omega)
  go_enter Try.func17, Try.ntmps17
  go_wp2_with (first
    | (go_at_call 10; refine (flok_impl_eq h _).mono ?_; rintro r w1 ⟨rfl, rfl⟩)
    | (go_at_call 23; refine (fob_inf _ _ (by omega) (by omega) (unhide h5) _).mono ?_; rintro r w1 ⟨rfl, rfl⟩)
    | (go_at_call 44; refine (told_inf false 0 0 _).mono ?_; rintro r w1 ⟨rfl, rfl⟩)
    | go_in)
  exact bodyPost_ret (v := flv 2 false 0 0) (by simp [results, Try.results17, go_sem]) rfl ⟨rfl, by repeat first | exact Kept.refl 0 0 _ | apply Kept.alloc⟩

set_option maxHeartbeats 2000000 in
theorem flnx_impl_psmall (m e : Int) (h : flok 1 false m e = true) (h1 : -1074 ≤ e) (h2 : e ≤ 971) (h3 : 1 ≤ m) (h4 : m ≤ 9007199254740991) (h5 : (((e + 1074) * 4503599627370496 + m) + 1) < 4503599627370496) (w : World) :
    Calls Try.prog 17 #[flv 1 false m e] w fun r w' => r = .returned (flv 1 false ((((e + 1074) * 4503599627370496 + m) + 1) % 4503599627370496) (-1074)) ∧ Kept 0 0 w w' := by
  have a0 := fun w => as_num_num false m e w
  have a1 := fun w => as_num_inf false m e w
  have a2 := fun w => as_num_nan false m e w
  have a3 := sgn_num false m e
  have a4 := inv_num false ((((e + 1074) * 4503599627370496 + m) + 1) % 4503599627370496) (-1074)
  have a5 : decide ((e + 1074) * 4503599627370496 + m + 1 ≤ 0) = false := decide_eq_false (by omega)
  go_enter Try.func17, Try.ntmps17
  go_wp2_with (first
    | (go_at_call 10; refine (flok_impl_eq h _).mono ?_; rintro r w1 ⟨rfl, rfl⟩)
    | (go_at_call 23; refine (fob_small _ _ (by omega) (by omega) (by omega) h5 _).mono ?_; rintro r w1 ⟨rfl, rfl⟩)
    | (go_at_call 43; refine (told_num false ((((e + 1074) * 4503599627370496 + m) + 1) % 4503599627370496) (-1074) _).mono ?_; rintro r w1 ⟨rfl, rfl⟩)
    | go_in)
  exact bodyPost_ret (v := flv 1 false ((((e + 1074) * 4503599627370496 + m) + 1) % 4503599627370496) (-1074)) (by simp [results, Try.results17, go_sem]) rfl ⟨rfl, by repeat first | exact Kept.refl 0 0 _ | apply Kept.alloc⟩

set_option maxHeartbeats 2000000 in
theorem flnx_impl_pfull (m e : Int) (h : flok 1 false m e = true) (h1 : -1074 ≤ e) (h2 : e ≤ 971) (h3 : 1 ≤ m) (h4 : m ≤ 9007199254740991) (h5 : 4503599627370496 ≤ (((e + 1074) * 4503599627370496 + m) + 1)) (h6 : (((e + 1074) * 4503599627370496 + m) + 1) < 9218868437227405312) (w : World) :
    Calls Try.prog 17 #[flv 1 false m e] w fun r w' => r = .returned (flv 1 false (4503599627370496 + (((e + 1074) * 4503599627370496 + m) + 1) % 4503599627370496) ((((e + 1074) * 4503599627370496 + m) + 1) / 4503599627370496 - 1 - 1074)) ∧ Kept 0 0 w w' := by
  have a0 := fun w => as_num_num false m e w
  have a1 := fun w => as_num_inf false m e w
  have a2 := fun w => as_num_nan false m e w
  have a3 := sgn_num false m e
  have a4 := inv_num false (4503599627370496 + (((e + 1074) * 4503599627370496 + m) + 1) % 4503599627370496) ((((e + 1074) * 4503599627370496 + m) + 1) / 4503599627370496 - 1 - 1074)
  have a5 : decide ((e + 1074) * 4503599627370496 + m + 1 ≤ 0) = false := decide_eq_false (by omega)
  go_enter Try.func17, Try.ntmps17
  go_wp2_with (first
    | (go_at_call 10; refine (flok_impl_eq h _).mono ?_; rintro r w1 ⟨rfl, rfl⟩)
    | (go_at_call 23; refine (fob_full _ _ (by omega) (by omega) h5 h6 _).mono ?_; rintro r w1 ⟨rfl, rfl⟩)
    | (go_at_call 43; refine (told_num false (4503599627370496 + (((e + 1074) * 4503599627370496 + m) + 1) % 4503599627370496) ((((e + 1074) * 4503599627370496 + m) + 1) / 4503599627370496 - 1 - 1074) _).mono ?_; rintro r w1 ⟨rfl, rfl⟩)
    | go_in)
  exact bodyPost_ret (v := flv 1 false (4503599627370496 + (((e + 1074) * 4503599627370496 + m) + 1) % 4503599627370496) ((((e + 1074) * 4503599627370496 + m) + 1) / 4503599627370496 - 1 - 1074)) (by simp [results, Try.results17, go_sem]) rfl ⟨rfl, by repeat first | exact Kept.refl 0 0 _ | apply Kept.alloc⟩

set_option maxHeartbeats 2000000 in
theorem flnx_impl_nnought (h : flok 1 true 1 (-1074) = true) (w : World) :
    Calls Try.prog 17 #[flv 1 true 1 (-1074)] w fun r w' => r = .returned (flv 0 true 0 0) ∧ Kept 0 0 w w' := by
  have a0 := fun w => as_num_num true 1 (-1074) w
  have a1 := fun w => as_num_inf true 1 (-1074) w
  have a2 := fun w => as_num_nan true 1 (-1074) w
  have a3 := sgn_num true 1 (-1074)
  have a4 := inv_nought true 0 0
  go_enter Try.func17, Try.ntmps17
  go_wp2_with (first
    | (go_at_call 10; refine (flok_impl_eq h _).mono ?_; rintro r w1 ⟨rfl, rfl⟩)
    | (go_at_call 23; refine (fob_nought 0 true (by omega) (by omega) rfl _).mono ?_; rintro r w1 ⟨rfl, rfl⟩)
    | (go_at_call 46; refine (told_nought true 0 0 _).mono ?_; rintro r w1 ⟨rfl, rfl⟩)
    | go_in)
  exact bodyPost_ret (v := flv 0 true 0 0) (by simp [results, Try.results17, go_sem]) rfl ⟨rfl, by repeat first | exact Kept.refl 0 0 _ | apply Kept.alloc⟩

set_option maxHeartbeats 2000000 in
theorem flnx_impl_nsmall (m e : Int) (h : flok 1 true m e = true) (h1 : -1074 ≤ e) (h2 : e ≤ 971) (h3 : 1 ≤ m) (h4 : m ≤ 9007199254740991) (h5 : 0 < (-(-((e + 1074) * 4503599627370496 + m) + 1))) (h6 : (-(-((e + 1074) * 4503599627370496 + m) + 1)) < 4503599627370496) (w : World) :
    Calls Try.prog 17 #[flv 1 true m e] w fun r w' => r = .returned (flv 1 true ((-(-((e + 1074) * 4503599627370496 + m) + 1)) % 4503599627370496) (-1074)) ∧ Kept 0 0 w w' := by
  have a0 := fun w => as_num_num true m e w
  have a1 := fun w => as_num_inf true m e w
  have a2 := fun w => as_num_nan true m e w
  have a3 := sgn_num true m e
  have a4 := inv_num true ((-(-((e + 1074) * 4503599627370496 + m) + 1)) % 4503599627370496) (-1074)
  have a5 : decide (-((e + 1074) * 4503599627370496 + m) + 1 ≤ 0) = true := decide_eq_true (by omega)
  go_enter Try.func17, Try.ntmps17
  go_wp2_with (first
    | (go_at_call 10; refine (flok_impl_eq h _).mono ?_; rintro r w1 ⟨rfl, rfl⟩)
    | (go_at_call 23; refine (fob_small _ _ (by omega) (by omega) h5 h6 _).mono ?_; rintro r w1 ⟨rfl, rfl⟩)
    | (go_at_call 43; refine (told_num true ((-(-((e + 1074) * 4503599627370496 + m) + 1)) % 4503599627370496) (-1074) _).mono ?_; rintro r w1 ⟨rfl, rfl⟩)
    | go_in)
  exact bodyPost_ret (v := flv 1 true ((-(-((e + 1074) * 4503599627370496 + m) + 1)) % 4503599627370496) (-1074)) (by simp [results, Try.results17, go_sem]) rfl ⟨rfl, by repeat first | exact Kept.refl 0 0 _ | apply Kept.alloc⟩

set_option maxHeartbeats 2000000 in
theorem flnx_impl_nfull (m e : Int) (h : flok 1 true m e = true) (h1 : -1074 ≤ e) (h2 : e ≤ 971) (h3 : 1 ≤ m) (h4 : m ≤ 9007199254740991) (h5 : 4503599627370496 ≤ (-(-((e + 1074) * 4503599627370496 + m) + 1))) (h6 : (-(-((e + 1074) * 4503599627370496 + m) + 1)) < 9218868437227405312) (w : World) :
    Calls Try.prog 17 #[flv 1 true m e] w fun r w' => r = .returned (flv 1 true (4503599627370496 + (-(-((e + 1074) * 4503599627370496 + m) + 1)) % 4503599627370496) ((-(-((e + 1074) * 4503599627370496 + m) + 1)) / 4503599627370496 - 1 - 1074)) ∧ Kept 0 0 w w' := by
  have a0 := fun w => as_num_num true m e w
  have a1 := fun w => as_num_inf true m e w
  have a2 := fun w => as_num_nan true m e w
  have a3 := sgn_num true m e
  have a4 := inv_num true (4503599627370496 + (-(-((e + 1074) * 4503599627370496 + m) + 1)) % 4503599627370496) ((-(-((e + 1074) * 4503599627370496 + m) + 1)) / 4503599627370496 - 1 - 1074)
  have a5 : decide (-((e + 1074) * 4503599627370496 + m) + 1 ≤ 0) = true := decide_eq_true (by omega)
  go_enter Try.func17, Try.ntmps17
  go_wp2_with (first
    | (go_at_call 10; refine (flok_impl_eq h _).mono ?_; rintro r w1 ⟨rfl, rfl⟩)
    | (go_at_call 23; refine (fob_full _ _ (by omega) (by omega) h5 h6 _).mono ?_; rintro r w1 ⟨rfl, rfl⟩)
    | (go_at_call 43; refine (told_num true (4503599627370496 + (-(-((e + 1074) * 4503599627370496 + m) + 1)) % 4503599627370496) ((-(-((e + 1074) * 4503599627370496 + m) + 1)) / 4503599627370496 - 1 - 1074) _).mono ?_; rintro r w1 ⟨rfl, rfl⟩)
    | go_in)
  exact bodyPost_ret (v := flv 1 true (4503599627370496 + (-(-((e + 1074) * 4503599627370496 + m) + 1)) % 4503599627370496) ((-(-((e + 1074) * 4503599627370496 + m) + 1)) / 4503599627370496 - 1 - 1074)) (by simp [results, Try.results17, go_sem]) rfl ⟨rfl, by repeat first | exact Kept.refl 0 0 _ | apply Kept.alloc⟩

end Go.Proofs.Ytbmogiegeffecaa
