/-
  Intervals: IvOk, IvHas, IvWithin of the model and of the program.
-/
import Derived.Test.YthahoabkehcgbaaGreatDoorqmIDyCmp7D
import Derived.Test.YthahoabkehcgbaaGreatDoorqmDy4
import Derived.Test.YthahoabkehcgbaaGreatDoorqmBJ
namespace Go.Proofs.YthahoabkehcgbaaGreatDoor
open Go.RowKit
set_option linter.unusedVariables false
set_option maxRecDepth 8000
set_option linter.unusedSimpArgs false

/-- Whether two numbers are the ends of an interval. -/
def iokB (s : Bool) (xs : List Int) (x : Int) (t : Bool) (ys : List Int) (y : Int) : Bool := dokB s xs x && dokB t ys y && decide (cmpD s xs x t ys y ≤ 0)
set_option maxHeartbeats 2000000 in
theorem cmp4_ok {b1 b2 : Bool} {w1l w1h w2l w2h : Nat} {v1 v2 : Value} {l1 l2 : List Int} (s1 : Bool) (e1 : Int) (hu1 : e1 ≤ 9223372036854775807) (hd1 : -9223372036854775808 ≤ e1) (s2 : Bool) (e2 : Int) (hu2 : e2 ≤ 9223372036854775807) (hd2 : -9223372036854775808 ≤ e2) (w : World) (r1 : Row .i64 b1 w1l w1h w v1 l1) (r2 : Row .i64 b2 w2l w2h w v2 l2) (o1 : dokB s1 l1 e1 = true) (o2 : dokB s2 l2 e2 = true) :
    Calls Tryz.prog 158 #[.agg #[.bool s1, v1, .int .i64 e1], .agg #[.bool s2, v2, .int .i64 e2]] w fun e w' => e = .returned (.int .i64 (cmpD s1 l1 e1 s2 l2 e2)) ∧ Kept 0 0 w w' := by
  rw [cmpD_ok o1 o2]
  exact cmp4_spec s1 s2 e1 e2 w r1 r2 o1 o2

set_option maxHeartbeats 2000000 in
theorem ivok_spec {b1 b2 : Bool} {w1l w1h w2l w2h : Nat} {v1 v2 : Value} {l1 l2 : List Int} (s1 : Bool) (e1 : Int) (hu1 : e1 ≤ 9223372036854775807) (hd1 : -9223372036854775808 ≤ e1) (s2 : Bool) (e2 : Int) (hu2 : e2 ≤ 9223372036854775807) (hd2 : -9223372036854775808 ≤ e2) (w : World) (r1 : Row .i64 b1 w1l w1h w v1 l1) (r2 : Row .i64 b2 w2l w2h w v2 l2) :
    Calls Tryz.prog 100 #[.agg #[.bool s1, v1, .int .i64 e1, .bool s2, v2, .int .i64 e2]] w fun e w' => e = .returned (.bool (iokB s1 l1 e1 s2 l2 e2)) ∧ Kept 0 0 w w' := by
  obtain ⟨Q, hQ⟩ : ∃ q, iokB s1 l1 e1 s2 l2 e2 = q := ⟨_, rfl⟩
  rw [hQ]
  have HQ := hide hQ
  clear hQ
  have k0 : Kept 0 0 w (w.alloc (.cells #[.bool s1, v1, .int .i64 e1, .bool s2, v2, .int .i64 e2] 102)) := ((Kept.refl 0 0 w).alloc (.cells #[.bool s1, v1, .int .i64 e1, .bool s2, v2, .int .i64 e2] 102))
  have p0_0 : (w.alloc (.cells #[.bool s1, v1, .int .i64 e1, .bool s2, v2, .int .i64 e2] 102)).cell? ⟨w.heap.size, 0, none⟩ = some (.bool s1) := new_cell2 _ _ _ _ _ _ (by simp) rfl
  have p0_1 : (w.alloc (.cells #[.bool s1, v1, .int .i64 e1, .bool s2, v2, .int .i64 e2] 102)).cell? ⟨w.heap.size, 1, none⟩ = some (v1) := new_cell2 _ _ _ _ _ _ (by simp) rfl
  have p0_2 : (w.alloc (.cells #[.bool s1, v1, .int .i64 e1, .bool s2, v2, .int .i64 e2] 102)).cell? ⟨w.heap.size, 2, none⟩ = some (.int .i64 e1) := new_cell2 _ _ _ _ _ _ (by simp) rfl
  have p0_3 : (w.alloc (.cells #[.bool s1, v1, .int .i64 e1, .bool s2, v2, .int .i64 e2] 102)).cell? ⟨w.heap.size, 3, none⟩ = some (.bool s2) := new_cell2 _ _ _ _ _ _ (by simp) rfl
  have p0_4 : (w.alloc (.cells #[.bool s1, v1, .int .i64 e1, .bool s2, v2, .int .i64 e2] 102)).cell? ⟨w.heap.size, 4, none⟩ = some (v2) := new_cell2 _ _ _ _ _ _ (by simp) rfl
  have p0_5 : (w.alloc (.cells #[.bool s1, v1, .int .i64 e1, .bool s2, v2, .int .i64 e2] 102)).cell? ⟨w.heap.size, 5, none⟩ = some (.int .i64 e2) := new_cell2 _ _ _ _ _ _ (by simp) rfl
  replace r1 := r1.kept k0 (by omega)
  replace r2 := r2.kept k0 (by omega)
  have s0 : (w.alloc (.cells #[.bool s1, v1, .int .i64 e1, .bool s2, v2, .int .i64 e2] 102)).heap.size = w.heap.size + 1 := by simp
  obtain ⟨a1, c1, hv⟩ := Row.form' r1
  subst hv
  obtain ⟨a2, c2, hv⟩ := Row.form' r2
  subst hv
  have K := hide (k0)
  clear k0
  have S0 := hide s0
  clear s0
  go_enter Tryz.func100, Tryz.ntmps100
  go_wp2_with fail
  generalize (w.alloc (.cells #[.bool s1, .slice a1 l1.length c1, .int .i64 e1, .bool s2, .slice a2 l2.length c2, .int .i64 e2] 102)) = W at *
  refine (dok_spec s1 e1 hu1 hd1 _ r1).mono ?_
  rintro e w1 ⟨rfl, k1⟩
  replace r1 := r1.kept k1 (.inr (.inr (Nat.le_refl 0)))
  replace r2 := r2.kept k1 (.inr (.inr (Nat.le_refl 0)))
  replace p0_0 := k1.cell0 p0_0
  replace p0_1 := k1.cell0 p0_1
  replace p0_2 := k1.cell0 p0_2
  replace p0_3 := k1.cell0 p0_3
  replace p0_4 := k1.cell0 p0_4
  replace p0_5 := k1.cell0 p0_5
  replace K := hide ((unhide K).trans k1)
  have z2 := k1.size
  clear k1
  cases o1 : dokB s1 l1 e1
  · have FQ : Hid (Q = false) := by show _ = _; rw [← unhide HQ]; unfold iokB; rw [o1]; rfl
    clear r1 r2
    go_wp2_with fail
    go_ret
    exact ⟨by rw [unhide FQ]; rfl, unhide K⟩
  have O1 := hide o1
  clear o1
  go_wp2_with fail
  refine (dok_spec s2 e2 hu2 hd2 _ r2).mono ?_
  rintro e w3 ⟨rfl, k3⟩
  replace r1 := r1.kept k3 (.inr (.inr (Nat.le_refl 0)))
  replace r2 := r2.kept k3 (.inr (.inr (Nat.le_refl 0)))
  replace p0_0 := k3.cell0 p0_0
  replace p0_1 := k3.cell0 p0_1
  replace p0_2 := k3.cell0 p0_2
  replace p0_3 := k3.cell0 p0_3
  replace p0_4 := k3.cell0 p0_4
  replace p0_5 := k3.cell0 p0_5
  replace K := hide ((unhide K).trans k3)
  have z4 := k3.size
  clear k3
  cases o2 : dokB s2 l2 e2
  · have FQ : Hid (Q = false) := by show _ = _; rw [← unhide HQ]; unfold iokB; rw [o2, unhide O1]; rfl
    clear r1 r2
    go_wp2_with fail
    go_ret
    exact ⟨by rw [unhide FQ]; rfl, unhide K⟩
  have O2 := hide o2
  clear o2
  go_wp2_with fail
  refine (cmp4_ok s1 e1 hu1 hd1 s2 e2 hu2 hd2 _ r1 r2 (unhide O1) (unhide O2)).mono ?_
  rintro e w5 ⟨rfl, k5⟩
  replace r1 := r1.kept k5 (.inr (.inr (Nat.le_refl 0)))
  replace r2 := r2.kept k5 (.inr (.inr (Nat.le_refl 0)))
  replace p0_0 := k5.cell0 p0_0
  replace p0_1 := k5.cell0 p0_1
  replace p0_2 := k5.cell0 p0_2
  replace p0_3 := k5.cell0 p0_3
  replace p0_4 := k5.cell0 p0_4
  replace p0_5 := k5.cell0 p0_5
  replace K := hide ((unhide K).trans k5)
  have z6 := k5.size
  clear k5
  obtain ⟨C, hC⟩ : ∃ c, cmpD s1 l1 e1 s2 l2 e2 = c := ⟨_, rfl⟩
  rw [hC]
  have FQ : Hid (Q = decide (C ≤ 0)) := by show _ = _; rw [← unhide HQ, ← hC]; unfold iokB; rw [unhide O1, unhide O2]; rfl
  clear hC r1 r2
  go_wp2_with fail
  go_ret
  exact ⟨by rw [unhide FQ]; rfl, unhide K⟩

set_option maxHeartbeats 2000000 in
theorem ivok_impl {b1 b2 : Bool} {w1l w1h w2l w2h : Nat} {v1 v2 : Value} {l1 l2 : List Int} (s1 : Bool) (e1 : Int) (hu1 : e1 ≤ 9223372036854775807) (hd1 : -9223372036854775808 ≤ e1) (s2 : Bool) (e2 : Int) (hu2 : e2 ≤ 9223372036854775807) (hd2 : -9223372036854775808 ≤ e2) (w : World) (r1 : Row .i64 b1 w1l w1h w v1 l1) (r2 : Row .i64 b2 w2l w2h w v2 l2) :
    Calls Tryz.prog 107 #[.agg #[.bool s1, v1, .int .i64 e1, .bool s2, v2, .int .i64 e2]] w fun e w' => e = .returned (.bool (iokB s1 l1 e1 s2 l2 e2)) ∧ Kept 0 0 w w' := by
  obtain ⟨Q, hQ⟩ : ∃ q, iokB s1 l1 e1 s2 l2 e2 = q := ⟨_, rfl⟩
  rw [hQ]
  have HQ := hide hQ
  clear hQ
  have k0 : Kept 0 0 w (w.alloc (.cells #[.bool s1, v1, .int .i64 e1, .bool s2, v2, .int .i64 e2] 102)) := ((Kept.refl 0 0 w).alloc (.cells #[.bool s1, v1, .int .i64 e1, .bool s2, v2, .int .i64 e2] 102))
  have p0_0 : (w.alloc (.cells #[.bool s1, v1, .int .i64 e1, .bool s2, v2, .int .i64 e2] 102)).cell? ⟨w.heap.size, 0, none⟩ = some (.bool s1) := new_cell2 _ _ _ _ _ _ (by simp) rfl
  have p0_1 : (w.alloc (.cells #[.bool s1, v1, .int .i64 e1, .bool s2, v2, .int .i64 e2] 102)).cell? ⟨w.heap.size, 1, none⟩ = some (v1) := new_cell2 _ _ _ _ _ _ (by simp) rfl
  have p0_2 : (w.alloc (.cells #[.bool s1, v1, .int .i64 e1, .bool s2, v2, .int .i64 e2] 102)).cell? ⟨w.heap.size, 2, none⟩ = some (.int .i64 e1) := new_cell2 _ _ _ _ _ _ (by simp) rfl
  have p0_3 : (w.alloc (.cells #[.bool s1, v1, .int .i64 e1, .bool s2, v2, .int .i64 e2] 102)).cell? ⟨w.heap.size, 3, none⟩ = some (.bool s2) := new_cell2 _ _ _ _ _ _ (by simp) rfl
  have p0_4 : (w.alloc (.cells #[.bool s1, v1, .int .i64 e1, .bool s2, v2, .int .i64 e2] 102)).cell? ⟨w.heap.size, 4, none⟩ = some (v2) := new_cell2 _ _ _ _ _ _ (by simp) rfl
  have p0_5 : (w.alloc (.cells #[.bool s1, v1, .int .i64 e1, .bool s2, v2, .int .i64 e2] 102)).cell? ⟨w.heap.size, 5, none⟩ = some (.int .i64 e2) := new_cell2 _ _ _ _ _ _ (by simp) rfl
  replace r1 := r1.kept k0 (by omega)
  replace r2 := r2.kept k0 (by omega)
  have s0 : (w.alloc (.cells #[.bool s1, v1, .int .i64 e1, .bool s2, v2, .int .i64 e2] 102)).heap.size = w.heap.size + 1 := by simp
  obtain ⟨a1, c1, hv⟩ := Row.form' r1
  subst hv
  obtain ⟨a2, c2, hv⟩ := Row.form' r2
  subst hv
  have K := hide (k0)
  clear k0
  have S0 := hide s0
  clear s0
  go_enter Tryz.func107, Tryz.ntmps107
  go_wp2_with fail
  generalize (w.alloc (.cells #[.bool s1, .slice a1 l1.length c1, .int .i64 e1, .bool s2, .slice a2 l2.length c2, .int .i64 e2] 102)) = W at *
  refine (dok_impl s1 e1 hu1 hd1 _ r1).mono ?_
  rintro e w1 ⟨rfl, k1⟩
  replace r1 := r1.kept k1 (.inr (.inr (Nat.le_refl 0)))
  replace r2 := r2.kept k1 (.inr (.inr (Nat.le_refl 0)))
  replace p0_0 := k1.cell0 p0_0
  replace p0_1 := k1.cell0 p0_1
  replace p0_2 := k1.cell0 p0_2
  replace p0_3 := k1.cell0 p0_3
  replace p0_4 := k1.cell0 p0_4
  replace p0_5 := k1.cell0 p0_5
  replace K := hide ((unhide K).trans k1)
  have z2 := k1.size
  clear k1
  cases o1 : dokB s1 l1 e1
  · have FQ : Hid (Q = false) := by show _ = _; rw [← unhide HQ]; unfold iokB; rw [o1]; rfl
    clear r1 r2
    go_wp2_with fail
    go_ret
    exact ⟨by rw [unhide FQ]; rfl, unhide K⟩
  have O1 := hide o1
  clear o1
  go_wp2_with fail
  refine (dok_impl s2 e2 hu2 hd2 _ r2).mono ?_
  rintro e w3 ⟨rfl, k3⟩
  replace r1 := r1.kept k3 (.inr (.inr (Nat.le_refl 0)))
  replace r2 := r2.kept k3 (.inr (.inr (Nat.le_refl 0)))
  replace p0_0 := k3.cell0 p0_0
  replace p0_1 := k3.cell0 p0_1
  replace p0_2 := k3.cell0 p0_2
  replace p0_3 := k3.cell0 p0_3
  replace p0_4 := k3.cell0 p0_4
  replace p0_5 := k3.cell0 p0_5
  replace K := hide ((unhide K).trans k3)
  have z4 := k3.size
  clear k3
  cases o2 : dokB s2 l2 e2
  · have FQ : Hid (Q = false) := by show _ = _; rw [← unhide HQ]; unfold iokB; rw [o2, unhide O1]; rfl
    clear r1 r2
    go_wp2_with fail
    go_ret
    exact ⟨by rw [unhide FQ]; rfl, unhide K⟩
  have O2 := hide o2
  clear o2
  go_wp2_with fail
  refine (dcmp_impl s1 s2 e1 e2 hu1 hd1 hu2 hd2 _ r1 r2).mono ?_
  rintro e w5 ⟨rfl, k5⟩
  replace r1 := r1.kept k5 (.inr (.inr (Nat.le_refl 0)))
  replace r2 := r2.kept k5 (.inr (.inr (Nat.le_refl 0)))
  replace p0_0 := k5.cell0 p0_0
  replace p0_1 := k5.cell0 p0_1
  replace p0_2 := k5.cell0 p0_2
  replace p0_3 := k5.cell0 p0_3
  replace p0_4 := k5.cell0 p0_4
  replace p0_5 := k5.cell0 p0_5
  replace K := hide ((unhide K).trans k5)
  have z6 := k5.size
  clear k5
  obtain ⟨C, hC⟩ : ∃ c, cmpD s1 l1 e1 s2 l2 e2 = c := ⟨_, rfl⟩
  rw [hC]
  have FQ : Hid (Q = decide (C ≤ 0)) := by show _ = _; rw [← unhide HQ, ← hC]; unfold iokB; rw [unhide O1, unhide O2]; rfl
  clear hC r1 r2
  go_wp2_with fail
  go_ret
  exact ⟨by rw [unhide FQ]; rfl, unhide K⟩

end Go.Proofs.YthahoabkehcgbaaGreatDoor

