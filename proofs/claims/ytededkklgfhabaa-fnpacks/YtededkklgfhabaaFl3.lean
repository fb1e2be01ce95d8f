/-
  FlPack, the model's and the program's.
-/
import Derived.Test.YtededkklgfhabaaFl2
import Derived.Test.YtededkklgfhabaaDec
import Derived.Deep.RegionHeld3
import Derived.Deep.DeepCutAuto
namespace Go.Proofs.Ytededkklgfhabaa
open Go.RowKit
set_option linter.unusedVariables false
set_option linter.unusedSimpArgs false

theorem and32 (n : Int) : bits .and .i64 n 4294967295 = n % 4294967296 := and_i64 n 32 (by decide)

theorem trip {a b a' b' : Int} {c : Bool} (h : a = a') (g : b = b') : Ending.returned (.tuple #[.int .i64 a, .int .i64 b, .bool c]) = .returned (.tuple #[.int .i64 a', .int .i64 b', .bool c]) := by
  subst h g; rfl

/-- The bit of the sign. -/
def sgb (n : Bool) : Int := if n then 2147483648 else 0

theorem as_num_num (n : Bool) (m e : Int) (w : World) : (Instr.typeAssert (.iface 59 (.agg #[.bool n, .int .i64 m, .int .i64 e])) 43 59 true).run Try.prog w = .ok (.tuple #[.agg #[.bool n, .int .i64 m, .int .i64 e], .bool true]) w := by kernel_rfl

theorem as_num_inf (n : Bool) (m e : Int) (w : World) : (Instr.typeAssert (.iface 59 (.agg #[.bool n, .int .i64 m, .int .i64 e])) 43 61 true).run Try.prog w = .ok (.tuple #[.agg #[.bool false], .bool false]) w := by kernel_rfl

theorem as_num_nan (n : Bool) (m e : Int) (w : World) : (Instr.typeAssert (.iface 59 (.agg #[.bool n, .int .i64 m, .int .i64 e])) 43 62 true).run Try.prog w = .ok (.tuple #[.agg #[.bool false], .bool false]) w := by kernel_rfl

theorem as_inf_num (n : Bool) (m e : Int) (w : World) : (Instr.typeAssert (.iface 61 (.agg #[.bool n])) 43 59 true).run Try.prog w = .ok (.tuple #[.agg #[.bool false, .int .i64 0, .int .i64 0], .bool false]) w := by kernel_rfl

theorem as_inf_inf (n : Bool) (m e : Int) (w : World) : (Instr.typeAssert (.iface 61 (.agg #[.bool n])) 43 61 true).run Try.prog w = .ok (.tuple #[.agg #[.bool n], .bool true]) w := by kernel_rfl

theorem as_inf_nan (n : Bool) (m e : Int) (w : World) : (Instr.typeAssert (.iface 61 (.agg #[.bool n])) 43 62 true).run Try.prog w = .ok (.tuple #[.agg #[.bool false], .bool false]) w := by kernel_rfl

theorem as_nan_num (n : Bool) (m e : Int) (w : World) : (Instr.typeAssert (.iface 62 (.agg #[.bool n])) 43 59 true).run Try.prog w = .ok (.tuple #[.agg #[.bool false, .int .i64 0, .int .i64 0], .bool false]) w := by kernel_rfl

theorem as_nan_inf (n : Bool) (m e : Int) (w : World) : (Instr.typeAssert (.iface 62 (.agg #[.bool n])) 43 61 true).run Try.prog w = .ok (.tuple #[.agg #[.bool false], .bool false]) w := by kernel_rfl

theorem as_nan_nan (n : Bool) (m e : Int) (w : World) : (Instr.typeAssert (.iface 62 (.agg #[.bool n])) 43 62 true).run Try.prog w = .ok (.tuple #[.agg #[.bool n], .bool true]) w := by kernel_rfl

theorem as_nought_num (n : Bool) (m e : Int) (w : World) : (Instr.typeAssert (.iface 63 (.agg #[.bool n])) 43 59 true).run Try.prog w = .ok (.tuple #[.agg #[.bool false, .int .i64 0, .int .i64 0], .bool false]) w := by kernel_rfl

theorem as_nought_inf (n : Bool) (m e : Int) (w : World) : (Instr.typeAssert (.iface 63 (.agg #[.bool n])) 43 61 true).run Try.prog w = .ok (.tuple #[.agg #[.bool false], .bool false]) w := by kernel_rfl

theorem as_nought_nan (n : Bool) (m e : Int) (w : World) : (Instr.typeAssert (.iface 63 (.agg #[.bool n])) 43 62 true).run Try.prog w = .ok (.tuple #[.agg #[.bool false], .bool false]) w := by kernel_rfl

set_option maxHeartbeats 1000000 in
theorem flpack_spec_no (k : Int) (n : Bool) (m e : Int) (h : flok k n m e = false) (w : World) :
    Calls Try.prog 21 #[flv k n m e] w fun r w' => r = .returned (.tuple #[.int .i64 (0), .int .i64 (0), .bool false]) ∧ Kept 0 0 w w' := by
  go_enter Try.func21, Try.ntmps21
  go_wp2_with (first | (go_at_call 6; refine (flok_spec_eq h _).mono ?_; rintro r w1 ⟨rfl, rfl⟩) | go_in)
  all_goals try go_region
  all_goals try go_wp2
  all_goals go_ret3
  all_goals refine ⟨trip ?_ ?_, by repeat first | exact Kept.refl 0 0 _ | apply Kept.alloc⟩
  all_goals (try simp only [and32]); (try simp only [sgb]); (try simp only [*]); (try simp); try omega

set_option maxHeartbeats 1000000 in
theorem flpack_spec_small (n : Bool) (m e : Int) (h : flok 1 n m e = true) (h1 : -1074 ≤ e) (h2 : e ≤ 971) (h3 : 1 ≤ m) (h4 : m ≤ 9007199254740991) (h5 : m < 4503599627370496) (h6 : e = -1074) (w : World) :
    Calls Try.prog 21 #[flv 1 n m e] w fun r w' => r = .returned (.tuple #[.int .i64 (sgb n + ((e + 1074) * 4503599627370496 + m) / 4294967296), .int .i64 (((e + 1074) * 4503599627370496 + m) % 4294967296), .bool true]) ∧ Kept 0 0 w w' := by
  subst h6
  clear h1 h2
  go_enter Try.func21, Try.ntmps21
  go_upto_region 14 with ((go_at_call 6; refine (flok_spec_eq h _).mono ?_; rintro r w1 ⟨rfl, rfl⟩))
  · rename_i hn _ _ _ _
    have F0 := (FB.new w 1 true m (-1074) 24).alloc (flc 1 true m (-1074) 24)
    have K0 := hide (((Kept.refl 0 0 w).alloc (flc 1 true m (-1074) 24)).alloc (flc 1 true m (-1074) 24)).drew
    have hw1 : IntKind.i64.wrap (2147483648 + m / 4294967296) = 2147483648 + m / 4294967296 := by rw [IntKind.wrap_i64]; omega
    have hw2 : IntKind.i64.wrap (m / 4294967296) = m / 4294967296 := by rw [IntKind.wrap_i64]; omega
    refine wp_region_held_drew (S := (fun w' => w'.cell? ⟨w.heap.size, 2, none⟩ = some (.int .i64 m))) (by kernel_rfl) ?_ (fun hHeld => ?_)
    · exact F0.c2
    generalize ((w.alloc (flc 1 true m (-1074) 24)).alloc (flc 1 true m (-1074) 24)).drew = wd at *
    clear F0
    refine wpAnyH_take (i := 0) (oi := _) (v := .int .i64 2147483648) rfl (by kernel_rfl) (by kernel_rfl) (by kernel_rfl) (fun _ _ _ h => h) (Or.inl ⟨by rfl, ?_⟩) hHeld ?_
    · intro wq hSw
      try dsimp only at hSw
      go_simp
    try simp only [Act.put, List.getElem_toArray, List.getElem_cons_succ, List.getElem_cons_zero, List.setIfInBounds_toArray, List.set_cons_zero, List.set_cons_succ]
    refine wpAnyH_take (i := 1) (oi := _) (v := .pointer (some ⟨w.heap.size, 2, none⟩)) rfl (by kernel_rfl) (by kernel_rfl) (by kernel_rfl) (fun _ _ _ h => h) (Or.inl ⟨by rfl, ?_⟩) hHeld ?_
    · intro wq hSw
      try dsimp only at hSw
      go_simp
    try simp only [Act.put, List.getElem_toArray, List.getElem_cons_succ, List.getElem_cons_zero, List.setIfInBounds_toArray, List.set_cons_zero, List.set_cons_succ]
    refine wpAnyH_take (i := 2) (oi := _) (v := .int .i64 m) rfl (by kernel_rfl) (by kernel_rfl) (by kernel_rfl) (fun _ _ _ h => h) (Or.inl ⟨by rfl, ?_⟩) hHeld ?_
    · intro wq hSw
      try dsimp only at hSw
      go_simp
    try simp only [Act.put, List.getElem_toArray, List.getElem_cons_succ, List.getElem_cons_zero, List.setIfInBounds_toArray, List.set_cons_zero, List.set_cons_succ]
    refine wpAnyH_take (i := 3) (oi := _) (v := .int .i64 (m / 4294967296)) rfl (by kernel_rfl) (by kernel_rfl) (by kernel_rfl) (fun _ _ _ h => h) (Or.inl ⟨by rfl, ?_⟩) hHeld ?_
    · intro wq hSw
      try dsimp only at hSw
      go_simp
    try simp only [Act.put, List.getElem_toArray, List.getElem_cons_succ, List.getElem_cons_zero, List.setIfInBounds_toArray, List.set_cons_zero, List.set_cons_succ]
    refine wpAnyH_take (i := 4) (oi := _) (v := .int .i64 (2147483648 + m / 4294967296)) rfl (by kernel_rfl) (by kernel_rfl) (by kernel_rfl) (fun _ _ _ h => h) (Or.inl ⟨by rfl, ?_⟩) hHeld ?_
    · intro wq hSw
      try dsimp only at hSw
      go_simp
    try simp only [Act.put, List.getElem_toArray, List.getElem_cons_succ, List.getElem_cons_zero, List.setIfInBounds_toArray, List.set_cons_zero, List.set_cons_succ]
    refine wpAnyH_take (i := 5) (oi := _) (v := .pointer (some ⟨w.heap.size, 2, none⟩)) rfl (by kernel_rfl) (by kernel_rfl) (by kernel_rfl) (fun _ _ _ h => h) (Or.inl ⟨by rfl, ?_⟩) hHeld ?_
    · intro wq hSw
      try dsimp only at hSw
      go_simp
    try simp only [Act.put, List.getElem_toArray, List.getElem_cons_succ, List.getElem_cons_zero, List.setIfInBounds_toArray, List.set_cons_zero, List.set_cons_succ]
    refine wpAnyH_take (i := 6) (oi := _) (v := .int .i64 m) rfl (by kernel_rfl) (by kernel_rfl) (by kernel_rfl) (fun _ _ _ h => h) (Or.inl ⟨by rfl, ?_⟩) hHeld ?_
    · intro wq hSw
      try dsimp only at hSw
      go_simp
    try simp only [Act.put, List.getElem_toArray, List.getElem_cons_succ, List.getElem_cons_zero, List.setIfInBounds_toArray, List.set_cons_zero, List.set_cons_succ]
    refine wpAnyH_take (i := 7) (oi := _) (v := .int .i64 (bits .and .i64 m 4294967295)) rfl (by kernel_rfl) (by kernel_rfl) (by kernel_rfl) (fun _ _ _ h => h) (Or.inl ⟨by rfl, ?_⟩) hHeld ?_
    · intro wq hSw
      try dsimp only at hSw
      go_simp
    try simp only [Act.put, List.getElem_toArray, List.getElem_cons_succ, List.getElem_cons_zero, List.setIfInBounds_toArray, List.set_cons_zero, List.set_cons_succ]
    refine wpAnyH_take (i := 8) (oi := _) (v := .int .i64 (2147483648 + m / 4294967296)) rfl (by kernel_rfl) (by kernel_rfl) (by kernel_rfl) (fun _ _ _ h => h) (Or.inl ⟨by rfl, ?_⟩) hHeld ?_
    · intro wq hSw
      try dsimp only at hSw
      go_simp
    try simp only [Act.put, List.getElem_toArray, List.getElem_cons_succ, List.getElem_cons_zero, List.setIfInBounds_toArray, List.set_cons_zero, List.set_cons_succ]
    refine wpAnyH_take (i := 9) (oi := _) (v := .int .i64 (bits .and .i64 m 4294967295)) rfl (by kernel_rfl) (by kernel_rfl) (by kernel_rfl) (fun _ _ _ h => h) (Or.inl ⟨by rfl, ?_⟩) hHeld ?_
    · intro wq hSw
      try dsimp only at hSw
      go_simp
    try simp only [Act.put, List.getElem_toArray, List.getElem_cons_succ, List.getElem_cons_zero, List.setIfInBounds_toArray, List.set_cons_zero, List.set_cons_succ]
    refine wpAnyH_take (i := 10) (oi := _) (v := .bool true) rfl (by kernel_rfl) (by kernel_rfl) (by kernel_rfl) (fun _ _ _ h => h) (Or.inl ⟨by rfl, ?_⟩) hHeld ?_
    · intro wq hSw
      try dsimp only at hSw
      go_simp
    try simp only [Act.put, List.getElem_toArray, List.getElem_cons_succ, List.getElem_cons_zero, List.setIfInBounds_toArray, List.set_cons_zero, List.set_cons_succ]
    refine wpAnyH_done (by kernel_rfl) ?_ _
    clear hHeld
    go_wp2
    go_ret3
    refine ⟨trip ?_ ?_, unhide K0⟩
    · (simp [sgb, *]) <;> omega
    · rw [and32]; omega
  · rename_i hn _ _ _ _
    have F0 := (FB.new w 1 false m (-1074) 24).alloc (flc 1 false m (-1074) 24)
    have K0 := hide (((Kept.refl 0 0 w).alloc (flc 1 false m (-1074) 24)).alloc (flc 1 false m (-1074) 24)).drew
    have hw1 : IntKind.i64.wrap (0 + m / 4294967296) = 0 + m / 4294967296 := by rw [IntKind.wrap_i64]; omega
    have hw2 : IntKind.i64.wrap (m / 4294967296) = m / 4294967296 := by rw [IntKind.wrap_i64]; omega
    refine wp_region_held_drew (S := (fun w' => w'.cell? ⟨w.heap.size, 2, none⟩ = some (.int .i64 m))) (by kernel_rfl) ?_ (fun hHeld => ?_)
    · exact F0.c2
    generalize ((w.alloc (flc 1 false m (-1074) 24)).alloc (flc 1 false m (-1074) 24)).drew = wd at *
    clear F0
    refine wpAnyH_take (i := 0) (oi := _) (v := .int .i64 0) rfl (by kernel_rfl) (by kernel_rfl) (by kernel_rfl) (fun _ _ _ h => h) (Or.inl ⟨by rfl, ?_⟩) hHeld ?_
    · intro wq hSw
      try dsimp only at hSw
      go_simp
    try simp only [Act.put, List.getElem_toArray, List.getElem_cons_succ, List.getElem_cons_zero, List.setIfInBounds_toArray, List.set_cons_zero, List.set_cons_succ]
    refine wpAnyH_take (i := 1) (oi := _) (v := .pointer (some ⟨w.heap.size, 2, none⟩)) rfl (by kernel_rfl) (by kernel_rfl) (by kernel_rfl) (fun _ _ _ h => h) (Or.inl ⟨by rfl, ?_⟩) hHeld ?_
    · intro wq hSw
      try dsimp only at hSw
      go_simp
    try simp only [Act.put, List.getElem_toArray, List.getElem_cons_succ, List.getElem_cons_zero, List.setIfInBounds_toArray, List.set_cons_zero, List.set_cons_succ]
    refine wpAnyH_take (i := 2) (oi := _) (v := .int .i64 m) rfl (by kernel_rfl) (by kernel_rfl) (by kernel_rfl) (fun _ _ _ h => h) (Or.inl ⟨by rfl, ?_⟩) hHeld ?_
    · intro wq hSw
      try dsimp only at hSw
      go_simp
    try simp only [Act.put, List.getElem_toArray, List.getElem_cons_succ, List.getElem_cons_zero, List.setIfInBounds_toArray, List.set_cons_zero, List.set_cons_succ]
    refine wpAnyH_take (i := 3) (oi := _) (v := .int .i64 (m / 4294967296)) rfl (by kernel_rfl) (by kernel_rfl) (by kernel_rfl) (fun _ _ _ h => h) (Or.inl ⟨by rfl, ?_⟩) hHeld ?_
    · intro wq hSw
      try dsimp only at hSw
      go_simp
    try simp only [Act.put, List.getElem_toArray, List.getElem_cons_succ, List.getElem_cons_zero, List.setIfInBounds_toArray, List.set_cons_zero, List.set_cons_succ]
    refine wpAnyH_take (i := 4) (oi := _) (v := .int .i64 (0 + m / 4294967296)) rfl (by kernel_rfl) (by kernel_rfl) (by kernel_rfl) (fun _ _ _ h => h) (Or.inl ⟨by rfl, ?_⟩) hHeld ?_
    · intro wq hSw
      try dsimp only at hSw
      go_simp
    try simp only [Act.put, List.getElem_toArray, List.getElem_cons_succ, List.getElem_cons_zero, List.setIfInBounds_toArray, List.set_cons_zero, List.set_cons_succ]
    refine wpAnyH_take (i := 5) (oi := _) (v := .pointer (some ⟨w.heap.size, 2, none⟩)) rfl (by kernel_rfl) (by kernel_rfl) (by kernel_rfl) (fun _ _ _ h => h) (Or.inl ⟨by rfl, ?_⟩) hHeld ?_
    · intro wq hSw
      try dsimp only at hSw
      go_simp
    try simp only [Act.put, List.getElem_toArray, List.getElem_cons_succ, List.getElem_cons_zero, List.setIfInBounds_toArray, List.set_cons_zero, List.set_cons_succ]
    refine wpAnyH_take (i := 6) (oi := _) (v := .int .i64 m) rfl (by kernel_rfl) (by kernel_rfl) (by kernel_rfl) (fun _ _ _ h => h) (Or.inl ⟨by rfl, ?_⟩) hHeld ?_
    · intro wq hSw
      try dsimp only at hSw
      go_simp
    try simp only [Act.put, List.getElem_toArray, List.getElem_cons_succ, List.getElem_cons_zero, List.setIfInBounds_toArray, List.set_cons_zero, List.set_cons_succ]
    refine wpAnyH_take (i := 7) (oi := _) (v := .int .i64 (bits .and .i64 m 4294967295)) rfl (by kernel_rfl) (by kernel_rfl) (by kernel_rfl) (fun _ _ _ h => h) (Or.inl ⟨by rfl, ?_⟩) hHeld ?_
    · intro wq hSw
      try dsimp only at hSw
      go_simp
    try simp only [Act.put, List.getElem_toArray, List.getElem_cons_succ, List.getElem_cons_zero, List.setIfInBounds_toArray, List.set_cons_zero, List.set_cons_succ]
    refine wpAnyH_take (i := 8) (oi := _) (v := .int .i64 (0 + m / 4294967296)) rfl (by kernel_rfl) (by kernel_rfl) (by kernel_rfl) (fun _ _ _ h => h) (Or.inl ⟨by rfl, ?_⟩) hHeld ?_
    · intro wq hSw
      try dsimp only at hSw
      go_simp
    try simp only [Act.put, List.getElem_toArray, List.getElem_cons_succ, List.getElem_cons_zero, List.setIfInBounds_toArray, List.set_cons_zero, List.set_cons_succ]
    refine wpAnyH_take (i := 9) (oi := _) (v := .int .i64 (bits .and .i64 m 4294967295)) rfl (by kernel_rfl) (by kernel_rfl) (by kernel_rfl) (fun _ _ _ h => h) (Or.inl ⟨by rfl, ?_⟩) hHeld ?_
    · intro wq hSw
      try dsimp only at hSw
      go_simp
    try simp only [Act.put, List.getElem_toArray, List.getElem_cons_succ, List.getElem_cons_zero, List.setIfInBounds_toArray, List.set_cons_zero, List.set_cons_succ]
    refine wpAnyH_take (i := 10) (oi := _) (v := .bool true) rfl (by kernel_rfl) (by kernel_rfl) (by kernel_rfl) (fun _ _ _ h => h) (Or.inl ⟨by rfl, ?_⟩) hHeld ?_
    · intro wq hSw
      try dsimp only at hSw
      go_simp
    try simp only [Act.put, List.getElem_toArray, List.getElem_cons_succ, List.getElem_cons_zero, List.setIfInBounds_toArray, List.set_cons_zero, List.set_cons_succ]
    refine wpAnyH_done (by kernel_rfl) ?_ _
    clear hHeld
    go_wp2
    go_ret3
    refine ⟨trip ?_ ?_, unhide K0⟩
    · (simp [sgb, *]) <;> omega
    · rw [and32]; omega

set_option maxHeartbeats 1000000 in
theorem flpack_spec_full (n : Bool) (m e : Int) (h : flok 1 n m e = true) (h1 : -1074 ≤ e) (h2 : e ≤ 971) (h3 : 1 ≤ m) (h4 : m ≤ 9007199254740991) (h5 : 4503599627370496 ≤ m) (w : World) :
    Calls Try.prog 21 #[flv 1 n m e] w fun r w' => r = .returned (.tuple #[.int .i64 (sgb n + ((e + 1074) * 4503599627370496 + m) / 4294967296), .int .i64 (((e + 1074) * 4503599627370496 + m) % 4294967296), .bool true]) ∧ Kept 0 0 w w' := by
  go_enter Try.func21, Try.ntmps21
  go_wp2_with (first | (go_at_call 6; refine (flok_spec_eq h _).mono ?_; rintro r w1 ⟨rfl, rfl⟩) | go_in)
  all_goals try go_region
  all_goals try go_wp2
  all_goals go_ret3
  all_goals refine ⟨trip ?_ ?_, by repeat first | exact Kept.refl 0 0 _ | apply Kept.alloc⟩
  all_goals (try simp only [and32]); (try simp only [sgb]); (try simp only [*]); (try simp); try omega

set_option maxHeartbeats 1000000 in
theorem flpack_spec_nought (n : Bool) (h : flok 0 n 0 0 = true) (w : World) :
    Calls Try.prog 21 #[flv 0 n 0 0] w fun r w' => r = .returned (.tuple #[.int .i64 (sgb n), .int .i64 (0), .bool true]) ∧ Kept 0 0 w w' := by
  go_enter Try.func21, Try.ntmps21
  go_wp2_with (first | (go_at_call 6; refine (flok_spec_eq h _).mono ?_; rintro r w1 ⟨rfl, rfl⟩) | go_in)
  all_goals try go_region
  all_goals try go_wp2
  all_goals go_ret3
  all_goals refine ⟨trip ?_ ?_, by repeat first | exact Kept.refl 0 0 _ | apply Kept.alloc⟩
  all_goals (try simp only [and32]); (try simp only [sgb]); (try simp only [*]); (try simp); try omega

set_option maxHeartbeats 1000000 in
theorem flpack_spec_inf (n : Bool) (h : flok 2 n 0 0 = true) (w : World) :
    Calls Try.prog 21 #[flv 2 n 0 0] w fun r w' => r = .returned (.tuple #[.int .i64 (sgb n + 2146435072), .int .i64 (0), .bool true]) ∧ Kept 0 0 w w' := by
  go_enter Try.func21, Try.ntmps21
  go_wp2_with (first | (go_at_call 6; refine (flok_spec_eq h _).mono ?_; rintro r w1 ⟨rfl, rfl⟩) | go_in)
  all_goals try go_region
  all_goals try go_wp2
  all_goals go_ret3
  all_goals refine ⟨trip ?_ ?_, by repeat first | exact Kept.refl 0 0 _ | apply Kept.alloc⟩
  all_goals (try simp only [and32]); (try simp only [sgb]); (try simp only [*]); (try simp); try omega

set_option maxHeartbeats 1000000 in
theorem flpack_spec_nan (h : flok 3 false 0 0 = true) (w : World) :
    Calls Try.prog 21 #[flv 3 false 0 0] w fun r w' => r = .returned (.tuple #[.int .i64 (2146959360), .int .i64 (0), .bool true]) ∧ Kept 0 0 w w' := by
  go_enter Try.func21, Try.ntmps21
  go_wp2_with (first | (go_at_call 6; refine (flok_spec_eq h _).mono ?_; rintro r w1 ⟨rfl, rfl⟩) | go_in)
  all_goals try go_region
  all_goals try go_wp2
  all_goals go_ret3
  all_goals refine ⟨trip ?_ ?_, by repeat first | exact Kept.refl 0 0 _ | apply Kept.alloc⟩
  all_goals (try simp only [and32]); (try simp only [sgb]); (try simp only [*]); (try simp); try omega

set_option maxHeartbeats 1000000 in
theorem flpack_impl_no (k : Int) (n : Bool) (m e : Int) (h : flok k n m e = false) (w : World) :
    Calls Try.prog 5 #[flv k n m e] w fun r w' => r = .returned (.tuple #[.int .i64 (0), .int .i64 (0), .bool false]) ∧ Kept 0 0 w w' := by
  go_enter Try.func5, Try.ntmps5
  go_wp2_with (first | (go_at_call 7; refine (flok_impl_eq h _).mono ?_; rintro r w1 ⟨rfl, rfl⟩) | go_in)
  all_goals try go_region
  all_goals try go_wp2
  all_goals go_ret3
  all_goals refine ⟨trip ?_ ?_, by repeat first | exact Kept.refl 0 0 _ | apply Kept.alloc⟩
  all_goals (try simp only [and32]); (try simp only [sgb]); (try simp only [*]); (try simp); try omega

set_option maxHeartbeats 1000000 in
theorem flpack_impl_num (n : Bool) (m e : Int) (h : flok 1 n m e = true) (h1 : -1074 ≤ e) (h2 : e ≤ 971) (h3 : 1 ≤ m) (h4 : m ≤ 9007199254740991) (w : World) :
    Calls Try.prog 5 #[flv 1 n m e] w fun r w' => r = .returned (.tuple #[.int .i64 (sgb n + ((e + 1074) * 4503599627370496 + m) / 4294967296), .int .i64 (((e + 1074) * 4503599627370496 + m) % 4294967296), .bool true]) ∧ Kept 0 0 w w' := by
  have a0 := fun w => as_num_num n m e w
  have a1 := fun w => as_num_inf n m e w
  have a2 := fun w => as_num_nan n m e w
  go_enter Try.func5, Try.ntmps5
  go_wp2_with (first | (go_at_call 7; refine (flok_impl_eq h _).mono ?_; rintro r w1 ⟨rfl, rfl⟩) | go_in)
  all_goals try go_region
  all_goals try go_wp2
  all_goals go_ret3
  all_goals refine ⟨trip ?_ ?_, by repeat first | exact Kept.refl 0 0 _ | apply Kept.alloc⟩
  all_goals (try simp only [and32]); (try simp only [sgb]); (try simp only [*]); (try simp); try omega

set_option maxHeartbeats 1000000 in
theorem flpack_impl_nought (n : Bool) (h : flok 0 n 0 0 = true) (w : World) :
    Calls Try.prog 5 #[flv 0 n 0 0] w fun r w' => r = .returned (.tuple #[.int .i64 (sgb n), .int .i64 (0), .bool true]) ∧ Kept 0 0 w w' := by
  have a0 := fun w => as_nought_num n 0 0 w
  have a1 := fun w => as_nought_inf n 0 0 w
  have a2 := fun w => as_nought_nan n 0 0 w
  go_enter Try.func5, Try.ntmps5
  go_wp2_with (first | (go_at_call 7; refine (flok_impl_eq h _).mono ?_; rintro r w1 ⟨rfl, rfl⟩) | go_in)
  all_goals try go_region
  all_goals try go_wp2
  all_goals go_ret3
  all_goals refine ⟨trip ?_ ?_, by repeat first | exact Kept.refl 0 0 _ | apply Kept.alloc⟩
  all_goals (try simp only [and32]); (try simp only [sgb]); (try simp only [*]); (try simp); try omega

set_option maxHeartbeats 1000000 in
theorem flpack_impl_inf (n : Bool) (h : flok 2 n 0 0 = true) (w : World) :
    Calls Try.prog 5 #[flv 2 n 0 0] w fun r w' => r = .returned (.tuple #[.int .i64 (sgb n + 2146435072), .int .i64 (0), .bool true]) ∧ Kept 0 0 w w' := by
  have a0 := fun w => as_inf_num n 0 0 w
  have a1 := fun w => as_inf_inf n 0 0 w
  have a2 := fun w => as_inf_nan n 0 0 w
  go_enter Try.func5, Try.ntmps5
  go_wp2_with (first | (go_at_call 7; refine (flok_impl_eq h _).mono ?_; rintro r w1 ⟨rfl, rfl⟩) | go_in)
  all_goals try go_region
  all_goals try go_wp2
  all_goals go_ret3
  all_goals refine ⟨trip ?_ ?_, by repeat first | exact Kept.refl 0 0 _ | apply Kept.alloc⟩
  all_goals (try simp only [and32]); (try simp only [sgb]); (try simp only [*]); (try simp); try omega

set_option maxHeartbeats 1000000 in
theorem flpack_impl_nan (h : flok 3 false 0 0 = true) (w : World) :
    Calls Try.prog 5 #[flv 3 false 0 0] w fun r w' => r = .returned (.tuple #[.int .i64 (2146959360), .int .i64 (0), .bool true]) ∧ Kept 0 0 w w' := by
  have a0 := fun w => as_nan_num false 0 0 w
  have a1 := fun w => as_nan_inf false 0 0 w
  have a2 := fun w => as_nan_nan false 0 0 w
  go_enter Try.func5, Try.ntmps5
  go_wp2_with (first | (go_at_call 7; refine (flok_impl_eq h _).mono ?_; rintro r w1 ⟨rfl, rfl⟩) | go_in)
  all_goals try go_region
  all_goals try go_wp2
  all_goals go_ret3
  all_goals refine ⟨trip ?_ ?_, by repeat first | exact Kept.refl 0 0 _ | apply Kept.alloc⟩
  all_goals (try simp only [and32]); (try simp only [sgb]); (try simp only [*]); (try simp); try omega

/-- What FlPack tells. -/
def fpk (k : Int) (n : Bool) (m e : Int) : Int × Int :=
  if flok k n m e = true then
    (if k = 1 then (sgb n + ((e + 1074) * 4503599627370496 + m) / 4294967296, ((e + 1074) * 4503599627370496 + m) % 4294967296)
     else if k = 0 then (sgb n, 0) else if k = 2 then (sgb n + 2146435072, 0) else (2146959360, 0))
  else (0, 0)

theorem flpack_spec (k : Int) (n : Bool) (m e : Int) (w : World) :
    Calls Try.prog 21 #[flv k n m e] w fun r w' => r = .returned (.tuple #[.int .i64 (fpk k n m e).1, .int .i64 (fpk k n m e).2, .bool (flok k n m e)]) ∧ Kept 0 0 w w' := by
  by_cases h : flok k n m e = true
  · rw [show fpk k n m e = (if k = 1 then (sgb n + ((e + 1074) * 4503599627370496 + m) / 4294967296, ((e + 1074) * 4503599627370496 + m) % 4294967296)
     else if k = 0 then (sgb n, 0) else if k = 2 then (sgb n + 2146435072, 0) else (2146959360, 0)) by unfold fpk; rw [if_pos h], h]
    rcases flok_ways h with ⟨rfl, h1, h2, h3, h4, h5⟩ | ⟨rfl, rfl, rfl⟩ | ⟨rfl, rfl, rfl⟩ | ⟨rfl, rfl, rfl, rfl⟩
    · rw [if_pos rfl]
      by_cases hh : 4503599627370496 ≤ m
      · exact flpack_spec_full n m e h h1 h2 h3 h4 hh w
      · exact flpack_spec_small n m e h h1 h2 h3 h4 (by omega) (by omega) w
    · exact flpack_spec_nought n h w
    · exact flpack_spec_inf n h w
    · exact flpack_spec_nan h w
  · have h' : flok k n m e = false := by simpa using h
    rw [show fpk k n m e = (0, 0) by unfold fpk; rw [if_neg h], h']
    exact flpack_spec_no k n m e h' w

theorem flpack_impl (k : Int) (n : Bool) (m e : Int) (w : World) :
    Calls Try.prog 5 #[flv k n m e] w fun r w' => r = .returned (.tuple #[.int .i64 (fpk k n m e).1, .int .i64 (fpk k n m e).2, .bool (flok k n m e)]) ∧ Kept 0 0 w w' := by
  by_cases h : flok k n m e = true
  · rw [show fpk k n m e = (if k = 1 then (sgb n + ((e + 1074) * 4503599627370496 + m) / 4294967296, ((e + 1074) * 4503599627370496 + m) % 4294967296)
     else if k = 0 then (sgb n, 0) else if k = 2 then (sgb n + 2146435072, 0) else (2146959360, 0)) by unfold fpk; rw [if_pos h], h]
    rcases flok_ways h with ⟨rfl, h1, h2, h3, h4, h5⟩ | ⟨rfl, rfl, rfl⟩ | ⟨rfl, rfl, rfl⟩ | ⟨rfl, rfl, rfl, rfl⟩
    · rw [if_pos rfl]
      exact flpack_impl_num n m e h h1 h2 h3 h4 w
    · exact flpack_impl_nought n h w
    · exact flpack_impl_inf n h w
    · exact flpack_impl_nan h w
  · have h' : flok k n m e = false := by simpa using h
    rw [show fpk k n m e = (0, 0) by unfold fpk; rw [if_neg h], h']
    exact flpack_impl_no k n m e h' w

end Go.Proofs.Ytededkklgfhabaa
