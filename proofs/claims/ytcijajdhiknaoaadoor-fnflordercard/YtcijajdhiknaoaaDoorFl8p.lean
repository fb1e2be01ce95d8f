/-
  Floats by their kinds, and their places: floatOf, placeOf.
-/
import Derived.Test.YtcijajdhiknaoaaDoorBG
import Derived.Deep.RegionHeld3
namespace Go.Proofs.YtcijajdhiknaoaaDoor
open Go.RowKit
set_option linter.unusedVariables false
set_option linter.unusedSimpArgs false

/-- The float by its kind: no nan. -/
def ifl (k : Int) (n : Bool) (m e : Int) : Value :=
  if k = 1 then .iface 75 (.agg #[.bool n, .int .i64 m, .int .i64 e]) else if k = 0 then .iface 73 (.agg #[.bool n]) else .iface 76 (.agg #[.bool n])

/-- Its place. -/
def plc (k : Int) (n : Bool) (m e : Int) : Int :=
  if n = true then -(if k = 1 then (e + 1074) * 4503599627370496 + m else if k = 0 then 0 else 9218868437227405312)
  else (if k = 1 then (e + 1074) * 4503599627370496 + m else if k = 0 then 0 else 9218868437227405312)

set_option maxHeartbeats 1000000 in
theorem floatOf_num (n : Bool) (m e : Int) (w : World) :
    Calls Tryd.prog 14 #[flv 1 n m e] w fun r w' => r = .returned (ifl 1 n m e) ∧ Kept 0 0 w w' := by
  show Calls _ _ _ _ fun r w' => r = .returned (.iface 75 (.agg #[.bool n, .int .i64 m, .int .i64 e])) ∧ Kept 0 0 w w'
  go_enter Tryd.func14, Tryd.ntmps14
  go_wp2
  go_ret
  exact ⟨rfl, by repeat first | exact Kept.refl 0 0 _ | apply Kept.alloc⟩

set_option maxHeartbeats 1000000 in
theorem placeOf_num_true (m e : Int) (h1 : -1074 ≤ e) (h2 : e ≤ 971) (h3 : 1 ≤ m) (h4 : m ≤ 9007199254740991) (w : World) :
    Calls Tryd.prog 13 #[.iface 75 (.agg #[.bool true, .int .i64 m, .int .i64 e])] w fun r w' => r = .returned (.int .i64 (-((e + 1074) * 4503599627370496 + m))) ∧ Kept 0 0 w w' := by
  have a0 := as_num_num true m e
  have a1 := as_num_inf true m e
  have a2 := as_num_nan true m e
  have a3 := sgn_num true m e
  go_enter Tryd.func13, Tryd.ntmps13
  go_wp2
  go_ret
  exact ⟨rfl, by repeat first | exact Kept.refl 0 0 _ | apply Kept.alloc⟩

set_option maxHeartbeats 1000000 in
theorem placeOf_num_false (m e : Int) (h1 : -1074 ≤ e) (h2 : e ≤ 971) (h3 : 1 ≤ m) (h4 : m ≤ 9007199254740991) (w : World) :
    Calls Tryd.prog 13 #[.iface 75 (.agg #[.bool false, .int .i64 m, .int .i64 e])] w fun r w' => r = .returned (.int .i64 (((e + 1074) * 4503599627370496 + m))) ∧ Kept 0 0 w w' := by
  have a0 := as_num_num false m e
  have a1 := as_num_inf false m e
  have a2 := as_num_nan false m e
  have a3 := sgn_num false m e
  go_enter Tryd.func13, Tryd.ntmps13
  go_wp2
  go_ret
  exact ⟨rfl, by repeat first | exact Kept.refl 0 0 _ | apply Kept.alloc⟩

set_option maxHeartbeats 1000000 in
theorem floatOf_nought (n : Bool) (w : World) :
    Calls Tryd.prog 14 #[flv 0 n 0 0] w fun r w' => r = .returned (ifl 0 n 0 0) ∧ Kept 0 0 w w' := by
  show Calls _ _ _ _ fun r w' => r = .returned (.iface 73 (.agg #[.bool n])) ∧ Kept 0 0 w w'
  go_enter Tryd.func14, Tryd.ntmps14
  go_wp2
  go_ret
  exact ⟨rfl, by repeat first | exact Kept.refl 0 0 _ | apply Kept.alloc⟩

set_option maxHeartbeats 1000000 in
theorem placeOf_nought_true (w : World) :
    Calls Tryd.prog 13 #[.iface 73 (.agg #[.bool true])] w fun r w' => r = .returned (.int .i64 (-0)) ∧ Kept 0 0 w w' := by
  have a0 := as_nought_num true 0 0
  have a1 := as_nought_inf true 0 0
  have a2 := as_nought_nan true 0 0
  have a3 := sgn_nought true 0 0
  go_enter Tryd.func13, Tryd.ntmps13
  go_wp2
  go_ret
  exact ⟨rfl, by repeat first | exact Kept.refl 0 0 _ | apply Kept.alloc⟩

set_option maxHeartbeats 1000000 in
theorem placeOf_nought_false (w : World) :
    Calls Tryd.prog 13 #[.iface 73 (.agg #[.bool false])] w fun r w' => r = .returned (.int .i64 (0)) ∧ Kept 0 0 w w' := by
  have a0 := as_nought_num false 0 0
  have a1 := as_nought_inf false 0 0
  have a2 := as_nought_nan false 0 0
  have a3 := sgn_nought false 0 0
  go_enter Tryd.func13, Tryd.ntmps13
  go_wp2
  go_ret
  exact ⟨rfl, by repeat first | exact Kept.refl 0 0 _ | apply Kept.alloc⟩

set_option maxHeartbeats 1000000 in
theorem floatOf_inf (n : Bool) (w : World) :
    Calls Tryd.prog 14 #[flv 2 n 0 0] w fun r w' => r = .returned (ifl 2 n 0 0) ∧ Kept 0 0 w w' := by
  show Calls _ _ _ _ fun r w' => r = .returned (.iface 76 (.agg #[.bool n])) ∧ Kept 0 0 w w'
  go_enter Tryd.func14, Tryd.ntmps14
  go_wp2
  go_ret
  exact ⟨rfl, by repeat first | exact Kept.refl 0 0 _ | apply Kept.alloc⟩

set_option maxHeartbeats 1000000 in
theorem placeOf_inf_true (w : World) :
    Calls Tryd.prog 13 #[.iface 76 (.agg #[.bool true])] w fun r w' => r = .returned (.int .i64 (-9218868437227405312)) ∧ Kept 0 0 w w' := by
  have a0 := as_inf_num true 0 0
  have a1 := as_inf_inf true 0 0
  have a2 := as_inf_nan true 0 0
  have a3 := sgn_inf true 0 0
  go_enter Tryd.func13, Tryd.ntmps13
  go_wp2
  go_ret
  exact ⟨rfl, by repeat first | exact Kept.refl 0 0 _ | apply Kept.alloc⟩

set_option maxHeartbeats 1000000 in
theorem placeOf_inf_false (w : World) :
    Calls Tryd.prog 13 #[.iface 76 (.agg #[.bool false])] w fun r w' => r = .returned (.int .i64 (9218868437227405312)) ∧ Kept 0 0 w w' := by
  have a0 := as_inf_num false 0 0
  have a1 := as_inf_inf false 0 0
  have a2 := as_inf_nan false 0 0
  have a3 := sgn_inf false 0 0
  go_enter Tryd.func13, Tryd.ntmps13
  go_wp2
  go_ret
  exact ⟨rfl, by repeat first | exact Kept.refl 0 0 _ | apply Kept.alloc⟩

theorem floatOf_any {k : Int} {n : Bool} {m e : Int} (h : flok k n m e = true) (h3 : k ≠ 3) (w : World) :
    Calls Tryd.prog 14 #[flv k n m e] w fun r w' => r = .returned (ifl k n m e) ∧ Kept 0 0 w w' := by
  rcases flok_ways h with ⟨rfl, -⟩ | ⟨rfl, rfl, rfl⟩ | ⟨rfl, rfl, rfl⟩ | ⟨rfl, -⟩
  · exact floatOf_num n m e w
  · exact floatOf_nought n w
  · exact floatOf_inf n w
  · exact absurd rfl h3

theorem placeOf_any {k : Int} {n : Bool} {m e : Int} (h : flok k n m e = true) (h3 : k ≠ 3) (w : World) :
    Calls Tryd.prog 13 #[ifl k n m e] w fun r w' => r = .returned (.int .i64 (plc k n m e)) ∧ Kept 0 0 w w' := by
  rcases flok_ways h with ⟨rfl, h1, h2, h3, h4, h5⟩ | ⟨rfl, rfl, rfl⟩ | ⟨rfl, rfl, rfl⟩ | ⟨rfl, -⟩
  · cases n
    · exact placeOf_num_false m e h1 h2 h3 h4 w
    · exact placeOf_num_true m e h1 h2 h3 h4 w
  · cases n
    · exact placeOf_nought_false w
    · exact placeOf_nought_true w
  · cases n
    · exact placeOf_inf_false w
    · exact placeOf_inf_true w
  · exact absurd rfl h3

end Go.Proofs.YtcijajdhiknaoaaDoor
