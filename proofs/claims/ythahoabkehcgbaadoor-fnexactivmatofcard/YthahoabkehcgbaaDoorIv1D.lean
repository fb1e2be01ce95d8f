/-
  Intervals: IvOk, IvHas, IvWithin of the model and of the program.
-/
import Derived.Test.YthahoabkehcgbaaDoorIDyCmp7D
import Derived.Test.YthahoabkehcgbaaDoorDy4
import Derived.Test.YthahoabkehcgbaaDoorBJ
namespace Go.Proofs.YthahoabkehcgbaaDoor
open Go.RowKit
set_option linter.unusedVariables false
set_option maxRecDepth 8000
set_option linter.unusedSimpArgs false

/-- Whether two numbers are the ends of an interval. -/
def iokB (s : Bool) (xs : List Int) (x : Int) (t : Bool) (ys : List Int) (y : Int) : Bool := dokB s xs x && dokB t ys y && decide (cmpD s xs x t ys y ≤ 0)
/-- Whether all of an interval lies in another. -/
def iwB (s1 : Bool) (l1 : List Int) (e1 : Int) (s2 : Bool) (l2 : List Int) (e2 : Int) (s3 : Bool) (l3 : List Int) (e3 : Int) (s4 : Bool) (l4 : List Int) (e4 : Int) : Bool := iokB s1 l1 e1 s2 l2 e2 && iokB s3 l3 e3 s4 l4 e4 && decide (cmpD s3 l3 e3 s1 l1 e1 ≤ 0) && decide (cmpD s2 l2 e2 s4 l4 e4 ≤ 0)
/-- Whether a number lies in an interval. -/
def ihB (s1 : Bool) (l1 : List Int) (e1 : Int) (s2 : Bool) (l2 : List Int) (e2 : Int) (s3 : Bool) (l3 : List Int) (e3 : Int) : Bool := iokB s1 l1 e1 s2 l2 e2 && dokB s3 l3 e3 && decide (cmpD s1 l1 e1 s3 l3 e3 ≤ 0) && decide (cmpD s3 l3 e3 s2 l2 e2 ≤ 0)
theorem iok_parts {s t : Bool} {xs ys : List Int} {x y : Int} (h : iokB s xs x t ys y = true) : dokB s xs x = true ∧ dokB t ys y = true ∧ cmpD s xs x t ys y ≤ 0 := by
  unfold iokB at h
  simp only [Bool.and_eq_true, decide_eq_true_eq] at h
  exact ⟨h.1.1, h.1.2, h.2⟩
theorem cmpD_self (s : Bool) (xs : List Int) (x : Int) : cmpD s xs x s xs x = 0 := by
  unfold cmpD
  split
  · unfold cmpDI cmpI
    rw [if_neg (by omega), if_neg (by omega)]
  · rfl
theorem iok_self (s : Bool) (xs : List Int) (x : Int) : iokB s xs x s xs x = dokB s xs x := by
  unfold iokB
  rw [cmpD_self]
  simp
theorem iw_self (s1 : Bool) (l1 : List Int) (e1 : Int) (s2 : Bool) (l2 : List Int) (e2 : Int) (s3 : Bool) (l3 : List Int) (e3 : Int) : iwB s3 l3 e3 s3 l3 e3 s1 l1 e1 s2 l2 e2 = ihB s1 l1 e1 s2 l2 e2 s3 l3 e3 := by
  unfold iwB ihB
  rw [iok_self, Bool.and_comm (dokB s3 l3 e3)]

set_option maxHeartbeats 2000000 in
theorem cmp4_ok {b1 b2 : Bool} {w1l w1h w2l w2h : Nat} {v1 v2 : Value} {l1 l2 : List Int} (s1 : Bool) (e1 : Int) (hu1 : e1 ≤ 9223372036854775807) (hd1 : -9223372036854775808 ≤ e1) (s2 : Bool) (e2 : Int) (hu2 : e2 ≤ 9223372036854775807) (hd2 : -9223372036854775808 ≤ e2) (w : World) (r1 : Row .i64 b1 w1l w1h w v1 l1) (r2 : Row .i64 b2 w2l w2h w v2 l2) (o1 : dokB s1 l1 e1 = true) (o2 : dokB s2 l2 e2 = true) :
    Calls Tryd.prog 61 #[.agg #[.bool s1, v1, .int .i64 e1], .agg #[.bool s2, v2, .int .i64 e2]] w fun e w' => e = .returned (.int .i64 (cmpD s1 l1 e1 s2 l2 e2)) ∧ Kept 0 0 w w' := by
  rw [cmpD_ok o1 o2]
  exact cmp4_spec s1 s2 e1 e2 w r1 r2 o1 o2

set_option maxHeartbeats 2000000 in
theorem ivok_spec {b1 b2 : Bool} {w1l w1h w2l w2h : Nat} {v1 v2 : Value} {l1 l2 : List Int} (s1 : Bool) (e1 : Int) (hu1 : e1 ≤ 9223372036854775807) (hd1 : -9223372036854775808 ≤ e1) (s2 : Bool) (e2 : Int) (hu2 : e2 ≤ 9223372036854775807) (hd2 : -9223372036854775808 ≤ e2) (w : World) (r1 : Row .i64 b1 w1l w1h w v1 l1) (r2 : Row .i64 b2 w2l w2h w v2 l2) :
    Calls Tryd.prog 48 #[.agg #[.bool s1, v1, .int .i64 e1, .bool s2, v2, .int .i64 e2]] w fun e w' => e = .returned (.bool (iokB s1 l1 e1 s2 l2 e2)) ∧ Kept 0 0 w w' := by
  obtain ⟨Q, hQ⟩ : ∃ q, iokB s1 l1 e1 s2 l2 e2 = q := ⟨_, rfl⟩
  rw [hQ]
  have HQ := hide hQ
  clear hQ
  have k0 : Kept 0 0 w (w.alloc (.cells #[.bool s1, v1, .int .i64 e1, .bool s2, v2, .int .i64 e2] 54)) := ((Kept.refl 0 0 w).alloc (.cells #[.bool s1, v1, .int .i64 e1, .bool s2, v2, .int .i64 e2] 54))
  have p0_0 : (w.alloc (.cells #[.bool s1, v1, .int .i64 e1, .bool s2, v2, .int .i64 e2] 54)).cell? ⟨w.heap.size, 0, none⟩ = some (.bool s1) := new_cell2 _ _ _ _ _ _ (by simp) rfl
  have p0_1 : (w.alloc (.cells #[.bool s1, v1, .int .i64 e1, .bool s2, v2, .int .i64 e2] 54)).cell? ⟨w.heap.size, 1, none⟩ = some (v1) := new_cell2 _ _ _ _ _ _ (by simp) rfl
  have p0_2 : (w.alloc (.cells #[.bool s1, v1, .int .i64 e1, .bool s2, v2, .int .i64 e2] 54)).cell? ⟨w.heap.size, 2, none⟩ = some (.int .i64 e1) := new_cell2 _ _ _ _ _ _ (by simp) rfl
  have p0_3 : (w.alloc (.cells #[.bool s1, v1, .int .i64 e1, .bool s2, v2, .int .i64 e2] 54)).cell? ⟨w.heap.size, 3, none⟩ = some (.bool s2) := new_cell2 _ _ _ _ _ _ (by simp) rfl
  have p0_4 : (w.alloc (.cells #[.bool s1, v1, .int .i64 e1, .bool s2, v2, .int .i64 e2] 54)).cell? ⟨w.heap.size, 4, none⟩ = some (v2) := new_cell2 _ _ _ _ _ _ (by simp) rfl
  have p0_5 : (w.alloc (.cells #[.bool s1, v1, .int .i64 e1, .bool s2, v2, .int .i64 e2] 54)).cell? ⟨w.heap.size, 5, none⟩ = some (.int .i64 e2) := new_cell2 _ _ _ _ _ _ (by simp) rfl
  replace r1 := r1.kept k0 (by omega)
  replace r2 := r2.kept k0 (by omega)
  have s0 : (w.alloc (.cells #[.bool s1, v1, .int .i64 e1, .bool s2, v2, .int .i64 e2] 54)).heap.size = w.heap.size + 1 := by simp
  obtain ⟨a1, c1, hv⟩ := Row.form' r1
  subst hv
  obtain ⟨a2, c2, hv⟩ := Row.form' r2
  subst hv
  have K := hide (k0)
  clear k0
  have S0 := hide s0
  clear s0
  go_enter Tryd.func48, Tryd.ntmps48
  go_wp2_with fail
  generalize (w.alloc (.cells #[.bool s1, .slice a1 l1.length c1, .int .i64 e1, .bool s2, .slice a2 l2.length c2, .int .i64 e2] 54)) = W at *
  refine (dok_spec s1 e1 hu1 hd1 _ r1).mono ?_
  rintro e w1 ⟨rfl, k1⟩
  replace r1 := r1.kept k1 (.inr (.inr (Nat.le_refl 0)))
  replace r2 := r2.kept k1 (.inr (.inr (Nat.le_refl 0)))
  replace p0_0 := k1.cell0 p0_0
  replace p0_1 := k1.cell0 p0_1
  replace p0_2 := k1.cell0 p0_2
  replace p0_3 := k1.cell0 p0_3
  replace p0_4 := k1.cell0 p0_4
  replace p0_5 := k1.cell0 p0_5
  replace K := hide ((unhide K).trans k1)
  have z2 := k1.size
  clear k1
  cases o1 : dokB s1 l1 e1
  · have FQ : Hid (Q = false) := by show _ = _; rw [← unhide HQ]; unfold iokB; rw [o1]; rfl
    clear r1 r2
    go_wp2_with fail
    go_ret
    exact ⟨by rw [unhide FQ]; rfl, unhide K⟩
  have O1 := hide o1
  clear o1
  go_wp2_with fail
  refine (dok_spec s2 e2 hu2 hd2 _ r2).mono ?_
  rintro e w3 ⟨rfl, k3⟩
  replace r1 := r1.kept k3 (.inr (.inr (Nat.le_refl 0)))
  replace r2 := r2.kept k3 (.inr (.inr (Nat.le_refl 0)))
  replace p0_0 := k3.cell0 p0_0
  replace p0_1 := k3.cell0 p0_1
  replace p0_2 := k3.cell0 p0_2
  replace p0_3 := k3.cell0 p0_3
  replace p0_4 := k3.cell0 p0_4
  replace p0_5 := k3.cell0 p0_5
  replace K := hide ((unhide K).trans k3)
  have z4 := k3.size
  clear k3
  cases o2 : dokB s2 l2 e2
  · have FQ : Hid (Q = false) := by show _ = _; rw [← unhide HQ]; unfold iokB; rw [o2, unhide O1]; rfl
    clear r1 r2
    go_wp2_with fail
    go_ret
    exact ⟨by rw [unhide FQ]; rfl, unhide K⟩
  have O2 := hide o2
  clear o2
  go_wp2_with fail
  refine (cmp4_ok s1 e1 hu1 hd1 s2 e2 hu2 hd2 _ r1 r2 (unhide O1) (unhide O2)).mono ?_
  rintro e w5 ⟨rfl, k5⟩
  replace r1 := r1.kept k5 (.inr (.inr (Nat.le_refl 0)))
  replace r2 := r2.kept k5 (.inr (.inr (Nat.le_refl 0)))
  replace p0_0 := k5.cell0 p0_0
  replace p0_1 := k5.cell0 p0_1
  replace p0_2 := k5.cell0 p0_2
  replace p0_3 := k5.cell0 p0_3
  replace p0_4 := k5.cell0 p0_4
  replace p0_5 := k5.cell0 p0_5
  replace K := hide ((unhide K).trans k5)
  have z6 := k5.size
  clear k5
  obtain ⟨C, hC⟩ : ∃ c, cmpD s1 l1 e1 s2 l2 e2 = c := ⟨_, rfl⟩
  rw [hC]
  have FQ : Hid (Q = decide (C ≤ 0)) := by show _ = _; rw [← unhide HQ, ← hC]; unfold iokB; rw [unhide O1, unhide O2]; rfl
  clear hC r1 r2
  go_wp2_with fail
  go_ret
  exact ⟨by rw [unhide FQ]; rfl, unhide K⟩

set_option maxHeartbeats 2000000 in
theorem ivok_impl {b1 b2 : Bool} {w1l w1h w2l w2h : Nat} {v1 v2 : Value} {l1 l2 : List Int} (s1 : Bool) (e1 : Int) (hu1 : e1 ≤ 9223372036854775807) (hd1 : -9223372036854775808 ≤ e1) (s2 : Bool) (e2 : Int) (hu2 : e2 ≤ 9223372036854775807) (hd2 : -9223372036854775808 ≤ e2) (w : World) (r1 : Row .i64 b1 w1l w1h w v1 l1) (r2 : Row .i64 b2 w2l w2h w v2 l2) :
    Calls Tryd.prog 36 #[.agg #[.bool s1, v1, .int .i64 e1, .bool s2, v2, .int .i64 e2]] w fun e w' => e = .returned (.bool (iokB s1 l1 e1 s2 l2 e2)) ∧ Kept 0 0 w w' := by
  obtain ⟨Q, hQ⟩ : ∃ q, iokB s1 l1 e1 s2 l2 e2 = q := ⟨_, rfl⟩
  rw [hQ]
  have HQ := hide hQ
  clear hQ
  have k0 : Kept 0 0 w (w.alloc (.cells #[.bool s1, v1, .int .i64 e1, .bool s2, v2, .int .i64 e2] 54)) := ((Kept.refl 0 0 w).alloc (.cells #[.bool s1, v1, .int .i64 e1, .bool s2, v2, .int .i64 e2] 54))
  have p0_0 : (w.alloc (.cells #[.bool s1, v1, .int .i64 e1, .bool s2, v2, .int .i64 e2] 54)).cell? ⟨w.heap.size, 0, none⟩ = some (.bool s1) := new_cell2 _ _ _ _ _ _ (by simp) rfl
  have p0_1 : (w.alloc (.cells #[.bool s1, v1, .int .i64 e1, .bool s2, v2, .int .i64 e2] 54)).cell? ⟨w.heap.size, 1, none⟩ = some (v1) := new_cell2 _ _ _ _ _ _ (by simp) rfl
  have p0_2 : (w.alloc (.cells #[.bool s1, v1, .int .i64 e1, .bool s2, v2, .int .i64 e2] 54)).cell? ⟨w.heap.size, 2, none⟩ = some (.int .i64 e1) := new_cell2 _ _ _ _ _ _ (by simp) rfl
  have p0_3 : (w.alloc (.cells #[.bool s1, v1, .int .i64 e1, .bool s2, v2, .int .i64 e2] 54)).cell? ⟨w.heap.size, 3, none⟩ = some (.bool s2) := new_cell2 _ _ _ _ _ _ (by simp) rfl
  have p0_4 : (w.alloc (.cells #[.bool s1, v1, .int .i64 e1, .bool s2, v2, .int .i64 e2] 54)).cell? ⟨w.heap.size, 4, none⟩ = some (v2) := new_cell2 _ _ _ _ _ _ (by simp) rfl
  have p0_5 : (w.alloc (.cells #[.bool s1, v1, .int .i64 e1, .bool s2, v2, .int .i64 e2] 54)).cell? ⟨w.heap.size, 5, none⟩ = some (.int .i64 e2) := new_cell2 _ _ _ _ _ _ (by simp) rfl
  replace r1 := r1.kept k0 (by omega)
  replace r2 := r2.kept k0 (by omega)
  have s0 : (w.alloc (.cells #[.bool s1, v1, .int .i64 e1, .bool s2, v2, .int .i64 e2] 54)).heap.size = w.heap.size + 1 := by simp
  obtain ⟨a1, c1, hv⟩ := Row.form' r1
  subst hv
  obtain ⟨a2, c2, hv⟩ := Row.form' r2
  subst hv
  have K := hide (k0)
  clear k0
  have S0 := hide s0
  clear s0
  go_enter Tryd.func36, Tryd.ntmps36
  go_wp2_with fail
  generalize (w.alloc (.cells #[.bool s1, .slice a1 l1.length c1, .int .i64 e1, .bool s2, .slice a2 l2.length c2, .int .i64 e2] 54)) = W at *
  refine (dok_impl s1 e1 hu1 hd1 _ r1).mono ?_
  rintro e w1 ⟨rfl, k1⟩
  replace r1 := r1.kept k1 (.inr (.inr (Nat.le_refl 0)))
  replace r2 := r2.kept k1 (.inr (.inr (Nat.le_refl 0)))
  replace p0_0 := k1.cell0 p0_0
  replace p0_1 := k1.cell0 p0_1
  replace p0_2 := k1.cell0 p0_2
  replace p0_3 := k1.cell0 p0_3
  replace p0_4 := k1.cell0 p0_4
  replace p0_5 := k1.cell0 p0_5
  replace K := hide ((unhide K).trans k1)
  have z2 := k1.size
  clear k1
  cases o1 : dokB s1 l1 e1
  · have FQ : Hid (Q = false) := by show _ = _; rw [← unhide HQ]; unfold iokB; rw [o1]; rfl
    clear r1 r2
    go_wp2_with fail
    go_ret
    exact ⟨by rw [unhide FQ]; rfl, unhide K⟩
  have O1 := hide o1
  clear o1
  go_wp2_with fail
  refine (dok_impl s2 e2 hu2 hd2 _ r2).mono ?_
  rintro e w3 ⟨rfl, k3⟩
  replace r1 := r1.kept k3 (.inr (.inr (Nat.le_refl 0)))
  replace r2 := r2.kept k3 (.inr (.inr (Nat.le_refl 0)))
  replace p0_0 := k3.cell0 p0_0
  replace p0_1 := k3.cell0 p0_1
  replace p0_2 := k3.cell0 p0_2
  replace p0_3 := k3.cell0 p0_3
  replace p0_4 := k3.cell0 p0_4
  replace p0_5 := k3.cell0 p0_5
  replace K := hide ((unhide K).trans k3)
  have z4 := k3.size
  clear k3
  cases o2 : dokB s2 l2 e2
  · have FQ : Hid (Q = false) := by show _ = _; rw [← unhide HQ]; unfold iokB; rw [o2, unhide O1]; rfl
    clear r1 r2
    go_wp2_with fail
    go_ret
    exact ⟨by rw [unhide FQ]; rfl, unhide K⟩
  have O2 := hide o2
  clear o2
  go_wp2_with fail
  refine (dcmp_impl s1 s2 e1 e2 hu1 hd1 hu2 hd2 _ r1 r2).mono ?_
  rintro e w5 ⟨rfl, k5⟩
  replace r1 := r1.kept k5 (.inr (.inr (Nat.le_refl 0)))
  replace r2 := r2.kept k5 (.inr (.inr (Nat.le_refl 0)))
  replace p0_0 := k5.cell0 p0_0
  replace p0_1 := k5.cell0 p0_1
  replace p0_2 := k5.cell0 p0_2
  replace p0_3 := k5.cell0 p0_3
  replace p0_4 := k5.cell0 p0_4
  replace p0_5 := k5.cell0 p0_5
  replace K := hide ((unhide K).trans k5)
  have z6 := k5.size
  clear k5
  obtain ⟨C, hC⟩ : ∃ c, cmpD s1 l1 e1 s2 l2 e2 = c := ⟨_, rfl⟩
  rw [hC]
  have FQ : Hid (Q = decide (C ≤ 0)) := by show _ = _; rw [← unhide HQ, ← hC]; unfold iokB; rw [unhide O1, unhide O2]; rfl
  clear hC r1 r2
  go_wp2_with fail
  go_ret
  exact ⟨by rw [unhide FQ]; rfl, unhide K⟩

end Go.Proofs.YthahoabkehcgbaaDoor
