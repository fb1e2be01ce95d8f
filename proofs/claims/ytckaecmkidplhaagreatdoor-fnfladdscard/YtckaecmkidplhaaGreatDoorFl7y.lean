/-
  FlNext, the model's; what both answer.
-/
import Derived.Test.YtckaecmkidplhaaGreatDoorFl5
namespace Go.Proofs.YtckaecmkidplhaaGreatDoor
open Go.RowKit
set_option linter.unusedVariables false
set_option linter.unusedSimpArgs false

set_option maxHeartbeats 1000000 in
theorem flnx_spec_no (k : Int) (n : Bool) (m e : Int) (h : flok k n m e = false) (w : World) :
    Calls Tryz.prog 90 #[flv k n m e] w fun r w' => r = .returned (flv 3 false 0 0) ∧ Kept 0 0 w w' := by
  go_enter Tryz.func90, Tryz.ntmps90
  go_wp2_with (first
    | (go_at_call 14; refine (flok_spec_eq h _).mono ?_; rintro r w1 ⟨rfl, rfl⟩)
    | (go_at_call 98; refine (l5nan_any _).mono ?_; rintro r w1 ⟨rfl, rfl⟩)
    | (go_at_call 130; refine (l5most_any _ _).mono ?_; rintro r w1 ⟨rfl, rfl⟩))
  all_goals first
    | exact bodyPost_ret (v := flv 3 false 0 0) (by simp [results, Tryz.results90, go_sem]) rfl ⟨rfl, by repeat first | exact Kept.refl 0 0 _ | apply Kept.alloc⟩
    | (exfalso; simp_all; omega)
    | trace_state

set_option maxHeartbeats 1000000 in
theorem flnx_spec_nan (h : flok 3 false 0 0 = true) (w : World) :
    Calls Tryz.prog 90 #[flv 3 false 0 0] w fun r w' => r = .returned (flv 3 false 0 0) ∧ Kept 0 0 w w' := by
  go_enter Tryz.func90, Tryz.ntmps90
  go_wp2_with (first
    | (go_at_call 14; refine (flok_spec_eq h _).mono ?_; rintro r w1 ⟨rfl, rfl⟩)
    | (go_at_call 98; refine (l5nan_any _).mono ?_; rintro r w1 ⟨rfl, rfl⟩)
    | (go_at_call 130; refine (l5most_any _ _).mono ?_; rintro r w1 ⟨rfl, rfl⟩))
  all_goals first
    | exact bodyPost_ret (v := flv 3 false 0 0) (by simp [results, Tryz.results90, go_sem]) rfl ⟨rfl, by repeat first | exact Kept.refl 0 0 _ | apply Kept.alloc⟩
    | (exfalso; simp_all; omega)
    | trace_state

set_option maxHeartbeats 1000000 in
theorem flnx_spec_infp (h : flok 2 false 0 0 = true) (w : World) :
    Calls Tryz.prog 90 #[flv 2 false 0 0] w fun r w' => r = .returned (flv 2 false 0 0) ∧ Kept 0 0 w w' := by
  go_enter Tryz.func90, Tryz.ntmps90
  go_wp2_with (first
    | (go_at_call 14; refine (flok_spec_eq h _).mono ?_; rintro r w1 ⟨rfl, rfl⟩)
    | (go_at_call 98; refine (l5nan_any _).mono ?_; rintro r w1 ⟨rfl, rfl⟩)
    | (go_at_call 130; refine (l5most_any _ _).mono ?_; rintro r w1 ⟨rfl, rfl⟩))
  all_goals first
    | exact bodyPost_ret (v := flv 2 false 0 0) (by simp [results, Tryz.results90, go_sem]) rfl ⟨rfl, by repeat first | exact Kept.refl 0 0 _ | apply Kept.alloc⟩
    | (exfalso; simp_all; omega)
    | trace_state

set_option maxHeartbeats 1000000 in
theorem flnx_spec_infn (h : flok 2 true 0 0 = true) (w : World) :
    Calls Tryz.prog 90 #[flv 2 true 0 0] w fun r w' => r = .returned (flv 1 true 9007199254740991 971) ∧ Kept 0 0 w w' := by
  go_enter Tryz.func90, Tryz.ntmps90
  go_wp2_with (first
    | (go_at_call 14; refine (flok_spec_eq h _).mono ?_; rintro r w1 ⟨rfl, rfl⟩)
    | (go_at_call 98; refine (l5nan_any _).mono ?_; rintro r w1 ⟨rfl, rfl⟩)
    | (go_at_call 130; refine (l5most_any _ _).mono ?_; rintro r w1 ⟨rfl, rfl⟩))
  all_goals first
    | exact bodyPost_ret (v := flv 1 true 9007199254740991 971) (by simp [results, Tryz.results90, go_sem]) rfl ⟨rfl, by repeat first | exact Kept.refl 0 0 _ | apply Kept.alloc⟩
    | (exfalso; simp_all; omega)
    | trace_state

set_option maxHeartbeats 1000000 in
theorem flnx_spec_nought (n : Bool) (h : flok 0 n 0 0 = true) (w : World) :
    Calls Tryz.prog 90 #[flv 0 n 0 0] w fun r w' => r = .returned (flv 1 false 1 (-1074)) ∧ Kept 0 0 w w' := by
  go_enter Tryz.func90, Tryz.ntmps90
  go_wp2_with (first
    | (go_at_call 14; refine (flok_spec_eq h _).mono ?_; rintro r w1 ⟨rfl, rfl⟩)
    | (go_at_call 98; refine (l5nan_any _).mono ?_; rintro r w1 ⟨rfl, rfl⟩)
    | (go_at_call 130; refine (l5most_any _ _).mono ?_; rintro r w1 ⟨rfl, rfl⟩))
  all_goals first
    | exact bodyPost_ret (v := flv 1 false 1 (-1074)) (by simp [results, Tryz.results90, go_sem]) rfl ⟨rfl, by repeat first | exact Kept.refl 0 0 _ | apply Kept.alloc⟩
    | (exfalso; simp_all; omega)
    | trace_state

set_option maxHeartbeats 1000000 in
theorem flnx_spec_p1 (e : Int) (h : flok 1 false 9007199254740991 e = true) (h1 : -1074 ≤ e) (h2 : e < 971) (w : World) :
    Calls Tryz.prog 90 #[flv 1 false 9007199254740991 e] w fun r w' => r = .returned (flv 1 false 4503599627370496 (e + 1)) ∧ Kept 0 0 w w' := by
  go_enter Tryz.func90, Tryz.ntmps90
  go_wp2_with (first
    | (go_at_call 14; refine (flok_spec_eq h _).mono ?_; rintro r w1 ⟨rfl, rfl⟩)
    | (go_at_call 98; refine (l5nan_any _).mono ?_; rintro r w1 ⟨rfl, rfl⟩)
    | (go_at_call 130; refine (l5most_any _ _).mono ?_; rintro r w1 ⟨rfl, rfl⟩))
  all_goals first
    | exact bodyPost_ret (v := flv 1 false 4503599627370496 (e + 1)) (by simp [results, Tryz.results90, go_sem]) rfl ⟨rfl, by repeat first | exact Kept.refl 0 0 _ | apply Kept.alloc⟩
    | (exfalso; simp_all; omega)
    | trace_state

set_option maxHeartbeats 1000000 in
theorem flnx_spec_p2 (h : flok 1 false 9007199254740991 971 = true) (w : World) :
    Calls Tryz.prog 90 #[flv 1 false 9007199254740991 971] w fun r w' => r = .returned (flv 2 false 0 0) ∧ Kept 0 0 w w' := by
  go_enter Tryz.func90, Tryz.ntmps90
  go_wp2_with (first
    | (go_at_call 14; refine (flok_spec_eq h _).mono ?_; rintro r w1 ⟨rfl, rfl⟩)
    | (go_at_call 98; refine (l5nan_any _).mono ?_; rintro r w1 ⟨rfl, rfl⟩)
    | (go_at_call 130; refine (l5most_any _ _).mono ?_; rintro r w1 ⟨rfl, rfl⟩))
  all_goals first
    | exact bodyPost_ret (v := flv 2 false 0 0) (by simp [results, Tryz.results90, go_sem]) rfl ⟨rfl, by repeat first | exact Kept.refl 0 0 _ | apply Kept.alloc⟩
    | (exfalso; simp_all; omega)
    | trace_state

set_option maxHeartbeats 1000000 in
theorem flnx_spec_p3 (m e : Int) (h : flok 1 false m e = true) (h1 : -1074 ≤ e) (h2 : e ≤ 971) (h3 : 1 ≤ m) (h4 : m < 9007199254740991) (w : World) :
    Calls Tryz.prog 90 #[flv 1 false m e] w fun r w' => r = .returned (flv 1 false (m + 1) e) ∧ Kept 0 0 w w' := by
  go_enter Tryz.func90, Tryz.ntmps90
  go_wp2_with (first
    | (go_at_call 14; refine (flok_spec_eq h _).mono ?_; rintro r w1 ⟨rfl, rfl⟩)
    | (go_at_call 98; refine (l5nan_any _).mono ?_; rintro r w1 ⟨rfl, rfl⟩)
    | (go_at_call 130; refine (l5most_any _ _).mono ?_; rintro r w1 ⟨rfl, rfl⟩))
  all_goals first
    | exact bodyPost_ret (v := flv 1 false (m + 1) e) (by simp [results, Tryz.results90, go_sem]) rfl ⟨rfl, by repeat first | exact Kept.refl 0 0 _ | apply Kept.alloc⟩
    | (exfalso; simp_all; omega)
    | trace_state

set_option maxHeartbeats 1000000 in
theorem flnx_spec_n1 (e : Int) (h : flok 1 true 4503599627370496 e = true) (h1 : -1074 < e) (h2 : e ≤ 971) (w : World) :
    Calls Tryz.prog 90 #[flv 1 true 4503599627370496 e] w fun r w' => r = .returned (flv 1 true 9007199254740991 (e - 1)) ∧ Kept 0 0 w w' := by
  go_enter Tryz.func90, Tryz.ntmps90
  go_wp2_with (first
    | (go_at_call 14; refine (flok_spec_eq h _).mono ?_; rintro r w1 ⟨rfl, rfl⟩)
    | (go_at_call 98; refine (l5nan_any _).mono ?_; rintro r w1 ⟨rfl, rfl⟩)
    | (go_at_call 130; refine (l5most_any _ _).mono ?_; rintro r w1 ⟨rfl, rfl⟩))
  all_goals first
    | exact bodyPost_ret (v := flv 1 true 9007199254740991 (e - 1)) (by simp [results, Tryz.results90, go_sem]) rfl ⟨rfl, by repeat first | exact Kept.refl 0 0 _ | apply Kept.alloc⟩
    | (exfalso; simp_all; omega)
    | trace_state

set_option maxHeartbeats 1000000 in
theorem flnx_spec_n2 (e : Int) (h : flok 1 true 1 e = true) (h1 : -1074 ≤ e) (h2 : e ≤ 971) (w : World) :
    Calls Tryz.prog 90 #[flv 1 true 1 e] w fun r w' => r = .returned (flv 0 true 0 0) ∧ Kept 0 0 w w' := by
  go_enter Tryz.func90, Tryz.ntmps90
  go_wp2_with (first
    | (go_at_call 14; refine (flok_spec_eq h _).mono ?_; rintro r w1 ⟨rfl, rfl⟩)
    | (go_at_call 98; refine (l5nan_any _).mono ?_; rintro r w1 ⟨rfl, rfl⟩)
    | (go_at_call 130; refine (l5most_any _ _).mono ?_; rintro r w1 ⟨rfl, rfl⟩))
  all_goals first
    | exact bodyPost_ret (v := flv 0 true 0 0) (by simp [results, Tryz.results90, go_sem]) rfl ⟨rfl, by repeat first | exact Kept.refl 0 0 _ | apply Kept.alloc⟩
    | (exfalso; simp_all; omega)
    | trace_state

set_option maxHeartbeats 1000000 in
theorem flnx_spec_n3 (m e : Int) (h : flok 1 true m e = true) (h1 : -1074 ≤ e) (h2 : e ≤ 971) (h3 : 1 < m) (h4 : m ≤ 9007199254740991) (h5 : m ≠ 4503599627370496) (w : World) :
    Calls Tryz.prog 90 #[flv 1 true m e] w fun r w' => r = .returned (flv 1 true (m - 1) e) ∧ Kept 0 0 w w' := by
  go_enter Tryz.func90, Tryz.ntmps90
  go_wp2_with (first
    | (go_at_call 14; refine (flok_spec_eq h _).mono ?_; rintro r w1 ⟨rfl, rfl⟩)
    | (go_at_call 98; refine (l5nan_any _).mono ?_; rintro r w1 ⟨rfl, rfl⟩)
    | (go_at_call 130; refine (l5most_any _ _).mono ?_; rintro r w1 ⟨rfl, rfl⟩))
  all_goals first
    | exact bodyPost_ret (v := flv 1 true (m - 1) e) (by simp [results, Tryz.results90, go_sem]) rfl ⟨rfl, by repeat first | exact Kept.refl 0 0 _ | apply Kept.alloc⟩
    | (exfalso; simp_all; omega)
    | trace_state

set_option maxHeartbeats 1000000 in
theorem flnx_spec_n4 (h : flok 1 true 4503599627370496 (-1074) = true) (w : World) :
    Calls Tryz.prog 90 #[flv 1 true 4503599627370496 (-1074)] w fun r w' => r = .returned (flv 1 true 4503599627370495 (-1074)) ∧ Kept 0 0 w w' := by
  go_enter Tryz.func90, Tryz.ntmps90
  go_wp2_with (first
    | (go_at_call 14; refine (flok_spec_eq h _).mono ?_; rintro r w1 ⟨rfl, rfl⟩)
    | (go_at_call 98; refine (l5nan_any _).mono ?_; rintro r w1 ⟨rfl, rfl⟩)
    | (go_at_call 130; refine (l5most_any _ _).mono ?_; rintro r w1 ⟨rfl, rfl⟩))
  all_goals first
    | exact bodyPost_ret (v := flv 1 true 4503599627370495 (-1074)) (by simp [results, Tryz.results90, go_sem]) rfl ⟨rfl, by repeat first | exact Kept.refl 0 0 _ | apply Kept.alloc⟩
    | (exfalso; simp_all; omega)
    | trace_state

theorem fob_val {b : Int} {n : Bool} {m e : Int} (h3 : 1 ≤ m) (h4 : m ≤ 9007199254740991) (h1 : -1074 ≤ e) (h2 : e ≤ 971) (h5 : 4503599627370496 ≤ m ∨ e = -1074) (hb : b = (e + 1074) * 4503599627370496 + m) :
    fob b n = (1, n, m, e) := by
  unfold fob
  rw [if_neg (by omega), if_neg (by omega), if_neg (by omega)]
  by_cases q : b < 4503599627370496
  · rw [if_pos q, show b % 4503599627370496 = m by omega, show e = -1074 by omega]
  · rw [if_neg q, show 4503599627370496 + b % 4503599627370496 = m by omega, show b / 4503599627370496 - 1 - 1074 = e by omega]

/-- What FlNext answers. -/
def fnx (k : Int) (n : Bool) (m e : Int) : Int × Bool × Int × Int :=
  if flok k n m e = true then
    (if k = 1 then (if n = true then fob (-(-((e + 1074) * 4503599627370496 + m) + 1)) true else fob ((e + 1074) * 4503599627370496 + m + 1) false)
     else if k = 0 then (1, false, 1, -1074) else if k = 2 then (if n = true then (1, true, 9007199254740991, 971) else (2, false, 0, 0)) else (3, false, 0, 0))
  else (3, false, 0, 0)

theorem flnx_spec (k : Int) (n : Bool) (m e : Int) (w : World) :
    Calls Tryz.prog 90 #[flv k n m e] w fun r w' => r = .returned (flq (fnx k n m e)) ∧ Kept 0 0 w w' := by
  by_cases h : flok k n m e = true
  · unfold fnx
    rw [if_pos h]
    rcases flok_ways h with ⟨rfl, h1, h2, h3, h4, h5⟩ | ⟨rfl, rfl, rfl⟩ | ⟨rfl, rfl, rfl⟩ | ⟨rfl, rfl, rfl, rfl⟩
    · rw [if_pos rfl]
      cases n
      · rw [if_neg (by decide)]
        by_cases q1 : m = 9007199254740991
        · subst q1
          by_cases q2 : e = 971
          · subst q2
            exact flnx_spec_p2 h w
          · rw [fob_val (m := 4503599627370496) (e := e + 1) (by omega) (by omega) (by omega) (by omega) (by omega) (by omega)]
            exact flnx_spec_p1 e h h1 (by omega) w
        · rw [fob_val (m := m + 1) (e := e) (by omega) (by omega) (by omega) (by omega) (by omega) (by omega)]
          exact flnx_spec_p3 m e h h1 h2 h3 (by omega) w
      · rw [if_pos rfl]
        by_cases q0 : m = 1
        · subst q0
          rw [show -(-((e + 1074) * 4503599627370496 + 1) + 1) = 0 by omega]
          exact flnx_spec_n2 e h h1 h2 w
        by_cases q1 : m = 4503599627370496
        · subst q1
          by_cases q2 : e = -1074
          · subst q2
            rw [fob_val (m := 4503599627370495) (e := -1074) (by omega) (by omega) (by omega) (by omega) (by omega) (by omega)]
            exact flnx_spec_n4 h w
          · rw [fob_val (m := 9007199254740991) (e := e - 1) (by omega) (by omega) (by omega) (by omega) (by omega) (by omega)]
            exact flnx_spec_n1 e h (by omega) h2 w
        · rw [fob_val (m := m - 1) (e := e) (by omega) (by omega) (by omega) (by omega) (by omega) (by omega)]
          exact flnx_spec_n3 m e h h1 h2 (by omega) h4 q1 w
    · exact flnx_spec_nought n h w
    · cases n
      · exact flnx_spec_infp h w
      · exact flnx_spec_infn h w
    · exact flnx_spec_nan h w
  · have h' : flok k n m e = false := by simpa using h
    rw [show fnx k n m e = (3, false, 0, 0) by unfold fnx; rw [if_neg h]]
    exact flnx_spec_no k n m e h' w

end Go.Proofs.YtckaecmkidplhaaGreatDoor

