/-
  Contracts that the proofs of this seat share: Fl3, Fl4, Fl5, Fl6, Fl7.
-/
import Derived.Test.YtcijajdhiknaoaaDoorFl2
import Derived.Test.YtcijajdhiknaoaaDoorDec
import Derived.Deep.RegionHeld3
import Derived.Deep.DeepCutAuto
namespace Go.Proofs.YtcijajdhiknaoaaDoor
open Go.RowKit
set_option linter.unusedVariables false
set_option linter.unusedSimpArgs false

theorem and32 (n : Int) : bits .and .i64 n 4294967295 = n % 4294967296 := and_i64 n 32 (by decide)

theorem trip {a b a' b' : Int} {c : Bool} (h : a = a') (g : b = b') : Ending.returned (.tuple #[.int .i64 a, .int .i64 b, .bool c]) = .returned (.tuple #[.int .i64 a', .int .i64 b', .bool c]) := by
  subst h g; rfl

/-- The bit of the sign. -/
def sgb (n : Bool) : Int := if n then 2147483648 else 0

theorem as_num_num (n : Bool) (m e : Int) (w : World) : (Instr.typeAssert (.iface 75 (.agg #[.bool n, .int .i64 m, .int .i64 e])) 48 75 true).run Tryd.prog w = .ok (.tuple #[.agg #[.bool n, .int .i64 m, .int .i64 e], .bool true]) w := by kernel_rfl

theorem as_num_inf (n : Bool) (m e : Int) (w : World) : (Instr.typeAssert (.iface 75 (.agg #[.bool n, .int .i64 m, .int .i64 e])) 48 76 true).run Tryd.prog w = .ok (.tuple #[.agg #[.bool false], .bool false]) w := by kernel_rfl

theorem as_num_nan (n : Bool) (m e : Int) (w : World) : (Instr.typeAssert (.iface 75 (.agg #[.bool n, .int .i64 m, .int .i64 e])) 48 77 true).run Tryd.prog w = .ok (.tuple #[.agg #[.bool false], .bool false]) w := by kernel_rfl

theorem as_inf_num (n : Bool) (m e : Int) (w : World) : (Instr.typeAssert (.iface 76 (.agg #[.bool n])) 48 75 true).run Tryd.prog w = .ok (.tuple #[.agg #[.bool false, .int .i64 0, .int .i64 0], .bool false]) w := by kernel_rfl

theorem as_inf_inf (n : Bool) (m e : Int) (w : World) : (Instr.typeAssert (.iface 76 (.agg #[.bool n])) 48 76 true).run Tryd.prog w = .ok (.tuple #[.agg #[.bool n], .bool true]) w := by kernel_rfl

theorem as_inf_nan (n : Bool) (m e : Int) (w : World) : (Instr.typeAssert (.iface 76 (.agg #[.bool n])) 48 77 true).run Tryd.prog w = .ok (.tuple #[.agg #[.bool false], .bool false]) w := by kernel_rfl

theorem as_nan_num (n : Bool) (m e : Int) (w : World) : (Instr.typeAssert (.iface 77 (.agg #[.bool n])) 48 75 true).run Tryd.prog w = .ok (.tuple #[.agg #[.bool false, .int .i64 0, .int .i64 0], .bool false]) w := by kernel_rfl

theorem as_nan_inf (n : Bool) (m e : Int) (w : World) : (Instr.typeAssert (.iface 77 (.agg #[.bool n])) 48 76 true).run Tryd.prog w = .ok (.tuple #[.agg #[.bool false], .bool false]) w := by kernel_rfl

theorem as_nan_nan (n : Bool) (m e : Int) (w : World) : (Instr.typeAssert (.iface 77 (.agg #[.bool n])) 48 77 true).run Tryd.prog w = .ok (.tuple #[.agg #[.bool n], .bool true]) w := by kernel_rfl

theorem as_nought_num (n : Bool) (m e : Int) (w : World) : (Instr.typeAssert (.iface 73 (.agg #[.bool n])) 48 75 true).run Tryd.prog w = .ok (.tuple #[.agg #[.bool false, .int .i64 0, .int .i64 0], .bool false]) w := by kernel_rfl

theorem as_nought_inf (n : Bool) (m e : Int) (w : World) : (Instr.typeAssert (.iface 73 (.agg #[.bool n])) 48 76 true).run Tryd.prog w = .ok (.tuple #[.agg #[.bool false], .bool false]) w := by kernel_rfl

theorem as_nought_nan (n : Bool) (m e : Int) (w : World) : (Instr.typeAssert (.iface 73 (.agg #[.bool n])) 48 77 true).run Tryd.prog w = .ok (.tuple #[.agg #[.bool false], .bool false]) w := by kernel_rfl

/-- What FlPack tells. -/
def fpk (k : Int) (n : Bool) (m e : Int) : Int × Int :=
  if flok k n m e = true then
    (if k = 1 then (sgb n + ((e + 1074) * 4503599627370496 + m) / 4294967296, ((e + 1074) * 4503599627370496 + m) % 4294967296)
     else if k = 0 then (sgb n, 0) else if k = 2 then (sgb n + 2146435072, 0) else (2146959360, 0))
  else (0, 0)

end Go.Proofs.YtcijajdhiknaoaaDoor

namespace Go.Proofs.YtcijajdhiknaoaaDoor
open Go.RowKit
set_option linter.unusedVariables false
set_option linter.unusedSimpArgs false

theorem inv_num (n : Bool) (m e : Int) (w : World) : (method 238 75 (.agg #[.bool n, .int .i64 m, .int .i64 e]) "loop.example/g00382/impl.told").run Tryd.prog w = .ok (86, .agg #[.bool n, .int .i64 m, .int .i64 e]) w := by kernel_rfl

theorem inv_inf (n : Bool) (m e : Int) (w : World) : (method 238 76 (.agg #[.bool n]) "loop.example/g00382/impl.told").run Tryd.prog w = .ok (89, .agg #[.bool n]) w := by kernel_rfl

theorem inv_nan (n : Bool) (m e : Int) (w : World) : (method 238 77 (.agg #[.bool n]) "loop.example/g00382/impl.told").run Tryd.prog w = .ok (90, .agg #[.bool n]) w := by kernel_rfl

theorem inv_nought (n : Bool) (m e : Int) (w : World) : (method 238 73 (.agg #[.bool n]) "loop.example/g00382/impl.told").run Tryd.prog w = .ok (83, .agg #[.bool n]) w := by kernel_rfl

end Go.Proofs.YtcijajdhiknaoaaDoor

namespace Go.Proofs.YtcijajdhiknaoaaDoor
open Go.RowKit
set_option linter.unusedVariables false
set_option linter.unusedSimpArgs false

/-- Whether both words are 32 bits. -/
def okU (hi lo : Int) : Bool := decide (0 ≤ hi ∧ hi ≤ 4294967295 ∧ 0 ≤ lo ∧ lo ≤ 4294967295)

/-- The float of bits below the sign. -/
def fob (b : Int) (n : Bool) : Int × Bool × Int × Int :=
  if 9218868437227405312 < b then (3, false, 0, 0) else if b = 9218868437227405312 then (2, n, 0, 0) else if b = 0 then (0, n, 0, 0)
  else if b < 4503599627370496 then (1, n, b % 4503599627370496, -1074) else (1, n, 4503599627370496 + b % 4503599627370496, b / 4503599627370496 - 1 - 1074)

/-- What FlUnpack tells. -/
def fun2 (hi lo : Int) : Int × Bool × Int × Int :=
  if okU hi lo = true then fob (hi % 2147483648 * 4294967296 + lo) (decide (2147483648 ≤ hi)) else (0, false, 0, 0)

end Go.Proofs.YtcijajdhiknaoaaDoor

namespace Go.Proofs.YtcijajdhiknaoaaDoor
open Go.RowKit
set_option linter.unusedVariables false
set_option linter.unusedSimpArgs false

theorem sgn_num (n : Bool) (m e : Int) (w : World) : (method 238 75 (.agg #[.bool n, .int .i64 m, .int .i64 e]) "loop.example/g00382/impl.hasSign").run Tryd.prog w = .ok (81, .agg #[.bool n]) w := by kernel_rfl

theorem sgn_inf (n : Bool) (m e : Int) (w : World) : (method 238 76 (.agg #[.bool n]) "loop.example/g00382/impl.hasSign").run Tryd.prog w = .ok (81, .agg #[.bool n]) w := by kernel_rfl

theorem sgn_nought (n : Bool) (m e : Int) (w : World) : (method 238 73 (.agg #[.bool n]) "loop.example/g00382/impl.hasSign").run Tryd.prog w = .ok (81, .agg #[.bool n]) w := by kernel_rfl

end Go.Proofs.YtcijajdhiknaoaaDoor

namespace Go.Proofs.YtcijajdhiknaoaaDoor
open Go.RowKit
set_option linter.unusedVariables false
set_option linter.unusedSimpArgs false

set_option maxHeartbeats 1000000 in
theorem flnx_spec_no (k : Int) (n : Bool) (m e : Int) (h : flok k n m e = false) (w : World) :
    Calls Tryd.prog 21 #[flv k n m e] w fun r w' => r = .returned (flv 3 false 0 0) ∧ Kept 0 0 w w' := by
  go_enter Tryd.func21, Tryd.ntmps21
  go_wp2_with (first
    | (go_at_call 33; refine (flok_spec_eq h _).mono ?_; rintro r w1 ⟨rfl, rfl⟩)
    | (go_at_call 34; refine (l5nan_any _).mono ?_; rintro r w1 ⟨rfl, rfl⟩)
    | (go_at_call 35; refine (l5most_any _ _).mono ?_; rintro r w1 ⟨rfl, rfl⟩))
  all_goals first
    | exact bodyPost_ret (v := flv 3 false 0 0) (by simp [results, Tryd.results21, go_sem]) rfl ⟨rfl, by repeat first | exact Kept.refl 0 0 _ | apply Kept.alloc⟩
    | (exfalso; simp_all; omega)
    | trace_state

set_option maxHeartbeats 1000000 in
theorem flnx_spec_nan (h : flok 3 false 0 0 = true) (w : World) :
    Calls Tryd.prog 21 #[flv 3 false 0 0] w fun r w' => r = .returned (flv 3 false 0 0) ∧ Kept 0 0 w w' := by
  go_enter Tryd.func21, Tryd.ntmps21
  go_wp2_with (first
    | (go_at_call 33; refine (flok_spec_eq h _).mono ?_; rintro r w1 ⟨rfl, rfl⟩)
    | (go_at_call 34; refine (l5nan_any _).mono ?_; rintro r w1 ⟨rfl, rfl⟩)
    | (go_at_call 35; refine (l5most_any _ _).mono ?_; rintro r w1 ⟨rfl, rfl⟩))
  all_goals first
    | exact bodyPost_ret (v := flv 3 false 0 0) (by simp [results, Tryd.results21, go_sem]) rfl ⟨rfl, by repeat first | exact Kept.refl 0 0 _ | apply Kept.alloc⟩
    | (exfalso; simp_all; omega)
    | trace_state

set_option maxHeartbeats 1000000 in
theorem flnx_spec_infp (h : flok 2 false 0 0 = true) (w : World) :
    Calls Tryd.prog 21 #[flv 2 false 0 0] w fun r w' => r = .returned (flv 2 false 0 0) ∧ Kept 0 0 w w' := by
  go_enter Tryd.func21, Tryd.ntmps21
  go_wp2_with (first
    | (go_at_call 33; refine (flok_spec_eq h _).mono ?_; rintro r w1 ⟨rfl, rfl⟩)
    | (go_at_call 34; refine (l5nan_any _).mono ?_; rintro r w1 ⟨rfl, rfl⟩)
    | (go_at_call 35; refine (l5most_any _ _).mono ?_; rintro r w1 ⟨rfl, rfl⟩))
  all_goals first
    | exact bodyPost_ret (v := flv 2 false 0 0) (by simp [results, Tryd.results21, go_sem]) rfl ⟨rfl, by repeat first | exact Kept.refl 0 0 _ | apply Kept.alloc⟩
    | (exfalso; simp_all; omega)
    | trace_state

set_option maxHeartbeats 1000000 in
theorem flnx_spec_infn (h : flok 2 true 0 0 = true) (w : World) :
    Calls Tryd.prog 21 #[flv 2 true 0 0] w fun r w' => r = .returned (flv 1 true 9007199254740991 971) ∧ Kept 0 0 w w' := by
  go_enter Tryd.func21, Tryd.ntmps21
  go_wp2_with (first
    | (go_at_call 33; refine (flok_spec_eq h _).mono ?_; rintro r w1 ⟨rfl, rfl⟩)
    | (go_at_call 34; refine (l5nan_any _).mono ?_; rintro r w1 ⟨rfl, rfl⟩)
    | (go_at_call 35; refine (l5most_any _ _).mono ?_; rintro r w1 ⟨rfl, rfl⟩))
  all_goals first
    | exact bodyPost_ret (v := flv 1 true 9007199254740991 971) (by simp [results, Tryd.results21, go_sem]) rfl ⟨rfl, by repeat first | exact Kept.refl 0 0 _ | apply Kept.alloc⟩
    | (exfalso; simp_all; omega)
    | trace_state

set_option maxHeartbeats 1000000 in
theorem flnx_spec_nought (n : Bool) (h : flok 0 n 0 0 = true) (w : World) :
    Calls Tryd.prog 21 #[flv 0 n 0 0] w fun r w' => r = .returned (flv 1 false 1 (-1074)) ∧ Kept 0 0 w w' := by
  go_enter Tryd.func21, Tryd.ntmps21
  go_wp2_with (first
    | (go_at_call 33; refine (flok_spec_eq h _).mono ?_; rintro r w1 ⟨rfl, rfl⟩)
    | (go_at_call 34; refine (l5nan_any _).mono ?_; rintro r w1 ⟨rfl, rfl⟩)
    | (go_at_call 35; refine (l5most_any _ _).mono ?_; rintro r w1 ⟨rfl, rfl⟩))
  all_goals first
    | exact bodyPost_ret (v := flv 1 false 1 (-1074)) (by simp [results, Tryd.results21, go_sem]) rfl ⟨rfl, by repeat first | exact Kept.refl 0 0 _ | apply Kept.alloc⟩
    | (exfalso; simp_all; omega)
    | trace_state

set_option maxHeartbeats 1000000 in
theorem flnx_spec_p1 (e : Int) (h : flok 1 false 9007199254740991 e = true) (h1 : -1074 ≤ e) (h2 : e < 971) (w : World) :
    Calls Tryd.prog 21 #[flv 1 false 9007199254740991 e] w fun r w' => r = .returned (flv 1 false 4503599627370496 (e + 1)) ∧ Kept 0 0 w w' := by
  go_enter Tryd.func21, Tryd.ntmps21
  go_wp2_with (first
    | (go_at_call 33; refine (flok_spec_eq h _).mono ?_; rintro r w1 ⟨rfl, rfl⟩)
    | (go_at_call 34; refine (l5nan_any _).mono ?_; rintro r w1 ⟨rfl, rfl⟩)
    | (go_at_call 35; refine (l5most_any _ _).mono ?_; rintro r w1 ⟨rfl, rfl⟩))
  all_goals first
    | exact bodyPost_ret (v := flv 1 false 4503599627370496 (e + 1)) (by simp [results, Tryd.results21, go_sem]) rfl ⟨rfl, by repeat first | exact Kept.refl 0 0 _ | apply Kept.alloc⟩
    | (exfalso; simp_all; omega)
    | trace_state

set_option maxHeartbeats 1000000 in
theorem flnx_spec_p2 (h : flok 1 false 9007199254740991 971 = true) (w : World) :
    Calls Tryd.prog 21 #[flv 1 false 9007199254740991 971] w fun r w' => r = .returned (flv 2 false 0 0) ∧ Kept 0 0 w w' := by
  go_enter Tryd.func21, Tryd.ntmps21
  go_wp2_with (first
    | (go_at_call 33; refine (flok_spec_eq h _).mono ?_; rintro r w1 ⟨rfl, rfl⟩)
    | (go_at_call 34; refine (l5nan_any _).mono ?_; rintro r w1 ⟨rfl, rfl⟩)
    | (go_at_call 35; refine (l5most_any _ _).mono ?_; rintro r w1 ⟨rfl, rfl⟩))
  all_goals first
    | exact bodyPost_ret (v := flv 2 false 0 0) (by simp [results, Tryd.results21, go_sem]) rfl ⟨rfl, by repeat first | exact Kept.refl 0 0 _ | apply Kept.alloc⟩
    | (exfalso; simp_all; omega)
    | trace_state

set_option maxHeartbeats 1000000 in
theorem flnx_spec_p3 (m e : Int) (h : flok 1 false m e = true) (h1 : -1074 ≤ e) (h2 : e ≤ 971) (h3 : 1 ≤ m) (h4 : m < 9007199254740991) (w : World) :
    Calls Tryd.prog 21 #[flv 1 false m e] w fun r w' => r = .returned (flv 1 false (m + 1) e) ∧ Kept 0 0 w w' := by
  go_enter Tryd.func21, Tryd.ntmps21
  go_wp2_with (first
    | (go_at_call 33; refine (flok_spec_eq h _).mono ?_; rintro r w1 ⟨rfl, rfl⟩)
    | (go_at_call 34; refine (l5nan_any _).mono ?_; rintro r w1 ⟨rfl, rfl⟩)
    | (go_at_call 35; refine (l5most_any _ _).mono ?_; rintro r w1 ⟨rfl, rfl⟩))
  all_goals first
    | exact bodyPost_ret (v := flv 1 false (m + 1) e) (by simp [results, Tryd.results21, go_sem]) rfl ⟨rfl, by repeat first | exact Kept.refl 0 0 _ | apply Kept.alloc⟩
    | (exfalso; simp_all; omega)
    | trace_state

set_option maxHeartbeats 1000000 in
theorem flnx_spec_n1 (e : Int) (h : flok 1 true 4503599627370496 e = true) (h1 : -1074 < e) (h2 : e ≤ 971) (w : World) :
    Calls Tryd.prog 21 #[flv 1 true 4503599627370496 e] w fun r w' => r = .returned (flv 1 true 9007199254740991 (e - 1)) ∧ Kept 0 0 w w' := by
  go_enter Tryd.func21, Tryd.ntmps21
  go_wp2_with (first
    | (go_at_call 33; refine (flok_spec_eq h _).mono ?_; rintro r w1 ⟨rfl, rfl⟩)
    | (go_at_call 34; refine (l5nan_any _).mono ?_; rintro r w1 ⟨rfl, rfl⟩)
    | (go_at_call 35; refine (l5most_any _ _).mono ?_; rintro r w1 ⟨rfl, rfl⟩))
  all_goals first
    | exact bodyPost_ret (v := flv 1 true 9007199254740991 (e - 1)) (by simp [results, Tryd.results21, go_sem]) rfl ⟨rfl, by repeat first | exact Kept.refl 0 0 _ | apply Kept.alloc⟩
    | (exfalso; simp_all; omega)
    | trace_state

set_option maxHeartbeats 1000000 in
theorem flnx_spec_n2 (e : Int) (h : flok 1 true 1 e = true) (h1 : -1074 ≤ e) (h2 : e ≤ 971) (w : World) :
    Calls Tryd.prog 21 #[flv 1 true 1 e] w fun r w' => r = .returned (flv 0 true 0 0) ∧ Kept 0 0 w w' := by
  go_enter Tryd.func21, Tryd.ntmps21
  go_wp2_with (first
    | (go_at_call 33; refine (flok_spec_eq h _).mono ?_; rintro r w1 ⟨rfl, rfl⟩)
    | (go_at_call 34; refine (l5nan_any _).mono ?_; rintro r w1 ⟨rfl, rfl⟩)
    | (go_at_call 35; refine (l5most_any _ _).mono ?_; rintro r w1 ⟨rfl, rfl⟩))
  all_goals first
    | exact bodyPost_ret (v := flv 0 true 0 0) (by simp [results, Tryd.results21, go_sem]) rfl ⟨rfl, by repeat first | exact Kept.refl 0 0 _ | apply Kept.alloc⟩
    | (exfalso; simp_all; omega)
    | trace_state

set_option maxHeartbeats 1000000 in
theorem flnx_spec_n3 (m e : Int) (h : flok 1 true m e = true) (h1 : -1074 ≤ e) (h2 : e ≤ 971) (h3 : 1 < m) (h4 : m ≤ 9007199254740991) (h5 : m ≠ 4503599627370496) (w : World) :
    Calls Tryd.prog 21 #[flv 1 true m e] w fun r w' => r = .returned (flv 1 true (m - 1) e) ∧ Kept 0 0 w w' := by
  go_enter Tryd.func21, Tryd.ntmps21
  go_wp2_with (first
    | (go_at_call 33; refine (flok_spec_eq h _).mono ?_; rintro r w1 ⟨rfl, rfl⟩)
    | (go_at_call 34; refine (l5nan_any _).mono ?_; rintro r w1 ⟨rfl, rfl⟩)
    | (go_at_call 35; refine (l5most_any _ _).mono ?_; rintro r w1 ⟨rfl, rfl⟩))
  all_goals first
    | exact bodyPost_ret (v := flv 1 true (m - 1) e) (by simp [results, Tryd.results21, go_sem]) rfl ⟨rfl, by repeat first | exact Kept.refl 0 0 _ | apply Kept.alloc⟩
    | (exfalso; simp_all; omega)
    | trace_state

set_option maxHeartbeats 1000000 in
theorem flnx_spec_n4 (h : flok 1 true 4503599627370496 (-1074) = true) (w : World) :
    Calls Tryd.prog 21 #[flv 1 true 4503599627370496 (-1074)] w fun r w' => r = .returned (flv 1 true 4503599627370495 (-1074)) ∧ Kept 0 0 w w' := by
  go_enter Tryd.func21, Tryd.ntmps21
  go_wp2_with (first
    | (go_at_call 33; refine (flok_spec_eq h _).mono ?_; rintro r w1 ⟨rfl, rfl⟩)
    | (go_at_call 34; refine (l5nan_any _).mono ?_; rintro r w1 ⟨rfl, rfl⟩)
    | (go_at_call 35; refine (l5most_any _ _).mono ?_; rintro r w1 ⟨rfl, rfl⟩))
  all_goals first
    | exact bodyPost_ret (v := flv 1 true 4503599627370495 (-1074)) (by simp [results, Tryd.results21, go_sem]) rfl ⟨rfl, by repeat first | exact Kept.refl 0 0 _ | apply Kept.alloc⟩
    | (exfalso; simp_all; omega)
    | trace_state

theorem fob_val {b : Int} {n : Bool} {m e : Int} (h3 : 1 ≤ m) (h4 : m ≤ 9007199254740991) (h1 : -1074 ≤ e) (h2 : e ≤ 971) (h5 : 4503599627370496 ≤ m ∨ e = -1074) (hb : b = (e + 1074) * 4503599627370496 + m) :
    fob b n = (1, n, m, e) := by
  unfold fob
  rw [if_neg (by omega), if_neg (by omega), if_neg (by omega)]
  by_cases q : b < 4503599627370496
  · rw [if_pos q, show b % 4503599627370496 = m by omega, show e = -1074 by omega]
  · rw [if_neg q, show 4503599627370496 + b % 4503599627370496 = m by omega, show b / 4503599627370496 - 1 - 1074 = e by omega]

/-- What FlNext answers. -/
def fnx (k : Int) (n : Bool) (m e : Int) : Int × Bool × Int × Int :=
  if flok k n m e = true then
    (if k = 1 then (if n = true then fob (-(-((e + 1074) * 4503599627370496 + m) + 1)) true else fob ((e + 1074) * 4503599627370496 + m + 1) false)
     else if k = 0 then (1, false, 1, -1074) else if k = 2 then (if n = true then (1, true, 9007199254740991, 971) else (2, false, 0, 0)) else (3, false, 0, 0))
  else (3, false, 0, 0)

theorem flnx_spec (k : Int) (n : Bool) (m e : Int) (w : World) :
    Calls Tryd.prog 21 #[flv k n m e] w fun r w' => r = .returned (flq (fnx k n m e)) ∧ Kept 0 0 w w' := by
  by_cases h : flok k n m e = true
  · unfold fnx
    rw [if_pos h]
    rcases flok_ways h with ⟨rfl, h1, h2, h3, h4, h5⟩ | ⟨rfl, rfl, rfl⟩ | ⟨rfl, rfl, rfl⟩ | ⟨rfl, rfl, rfl, rfl⟩
    · rw [if_pos rfl]
      cases n
      · rw [if_neg (by decide)]
        by_cases q1 : m = 9007199254740991
        · subst q1
          by_cases q2 : e = 971
          · subst q2
            exact flnx_spec_p2 h w
          · rw [fob_val (m := 4503599627370496) (e := e + 1) (by omega) (by omega) (by omega) (by omega) (by omega) (by omega)]
            exact flnx_spec_p1 e h h1 (by omega) w
        · rw [fob_val (m := m + 1) (e := e) (by omega) (by omega) (by omega) (by omega) (by omega) (by omega)]
          exact flnx_spec_p3 m e h h1 h2 h3 (by omega) w
      · rw [if_pos rfl]
        by_cases q0 : m = 1
        · subst q0
          rw [show -(-((e + 1074) * 4503599627370496 + 1) + 1) = 0 by omega]
          exact flnx_spec_n2 e h h1 h2 w
        by_cases q1 : m = 4503599627370496
        · subst q1
          by_cases q2 : e = -1074
          · subst q2
            rw [fob_val (m := 4503599627370495) (e := -1074) (by omega) (by omega) (by omega) (by omega) (by omega) (by omega)]
            exact flnx_spec_n4 h w
          · rw [fob_val (m := 9007199254740991) (e := e - 1) (by omega) (by omega) (by omega) (by omega) (by omega) (by omega)]
            exact flnx_spec_n1 e h (by omega) h2 w
        · rw [fob_val (m := m - 1) (e := e) (by omega) (by omega) (by omega) (by omega) (by omega) (by omega)]
          exact flnx_spec_n3 m e h h1 h2 (by omega) h4 q1 w
    · exact flnx_spec_nought n h w
    · cases n
      · exact flnx_spec_infp h w
      · exact flnx_spec_infn h w
    · exact flnx_spec_nan h w
  · have h' : flok k n m e = false := by simpa using h
    rw [show fnx k n m e = (3, false, 0, 0) by unfold fnx; rw [if_neg h]]
    exact flnx_spec_no k n m e h' w

end Go.Proofs.YtcijajdhiknaoaaDoor
