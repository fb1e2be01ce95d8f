/-
  IvMatWide of the program.
-/
import Derived.Test.YthahoabkehcgbaaGreatDoorqoIDyCmp7D
import Derived.Test.YthahoabkehcgbaaGreatDoorqoIWCmp
import Derived.Test.YthahoabkehcgbaaGreatDoorqoBJ
import Derived.Test.YthahoabkehcgbaaGreatDoorqoDys4
import Derived.Deep.DeepCutAuto
import Derived.Test.YthahoabkehcgbaaGreatDoorqoDys6
namespace Go.Proofs.YthahoabkehcgbaaGreatDoor
open Go.RowKit
set_option linter.unusedVariables false
set_option maxRecDepth 8000
set_option linter.unusedSimpArgs false

/-- Whether two numbers are the ends of an interval. -/
def iokB (s : Bool) (xs : List Int) (x : Int) (t : Bool) (ys : List Int) (y : Int) : Bool := dokB s xs x && dokB t ys y && decide (cmpD s xs x t ys y ≤ 0)
theorem iok_parts {s t : Bool} {xs ys : List Int} {x y : Int} (h : iokB s xs x t ys y = true) : dokB s xs x = true ∧ dokB t ys y = true ∧ cmpD s xs x t ys y ≤ 0 := by
  unfold iokB at h
  simp only [Bool.and_eq_true, decide_eq_true_eq] at h
  exact ⟨h.1.1, h.1.2, h.2⟩
set_option maxHeartbeats 2000000 in
theorem cmp4_ok {b1 b2 : Bool} {w1l w1h w2l w2h : Nat} {v1 v2 : Value} {l1 l2 : List Int} (s1 : Bool) (e1 : Int) (hu1 : e1 ≤ 9223372036854775807) (hd1 : -9223372036854775808 ≤ e1) (s2 : Bool) (e2 : Int) (hu2 : e2 ≤ 9223372036854775807) (hd2 : -9223372036854775808 ≤ e2) (w : World) (r1 : Row .i64 b1 w1l w1h w v1 l1) (r2 : Row .i64 b2 w2l w2h w v2 l2) (o1 : dokB s1 l1 e1 = true) (o2 : dokB s2 l2 e2 = true) :
    Calls Tryz.prog 158 #[.agg #[.bool s1, v1, .int .i64 e1], .agg #[.bool s2, v2, .int .i64 e2]] w fun e w' => e = .returned (.int .i64 (cmpD s1 l1 e1 s2 l2 e2)) ∧ Kept 0 0 w w' := by
  rw [cmpD_ok o1 o2]
  exact cmp4_spec s1 s2 e1 e2 w r1 r2 o1 o2

set_option maxHeartbeats 2000000 in
theorem ivok_spec {b1 b2 : Bool} {w1l w1h w2l w2h : Nat} {v1 v2 : Value} {l1 l2 : List Int} (s1 : Bool) (e1 : Int) (hu1 : e1 ≤ 9223372036854775807) (hd1 : -9223372036854775808 ≤ e1) (s2 : Bool) (e2 : Int) (hu2 : e2 ≤ 9223372036854775807) (hd2 : -9223372036854775808 ≤ e2) (w : World) (r1 : Row .i64 b1 w1l w1h w v1 l1) (r2 : Row .i64 b2 w2l w2h w v2 l2) :
    Calls Tryz.prog 100 #[.agg #[.bool s1, v1, .int .i64 e1, .bool s2, v2, .int .i64 e2]] w fun e w' => e = .returned (.bool (iokB s1 l1 e1 s2 l2 e2)) ∧ Kept 0 0 w w' := by
  obtain ⟨Q, hQ⟩ : ∃ q, iokB s1 l1 e1 s2 l2 e2 = q := ⟨_, rfl⟩
  rw [hQ]
  have HQ := hide hQ
  clear hQ
  have k0 : Kept 0 0 w (w.alloc (.cells #[.bool s1, v1, .int .i64 e1, .bool s2, v2, .int .i64 e2] 102)) := ((Kept.refl 0 0 w).alloc (.cells #[.bool s1, v1, .int .i64 e1, .bool s2, v2, .int .i64 e2] 102))
  have p0_0 : (w.alloc (.cells #[.bool s1, v1, .int .i64 e1, .bool s2, v2, .int .i64 e2] 102)).cell? ⟨w.heap.size, 0, none⟩ = some (.bool s1) := new_cell2 _ _ _ _ _ _ (by simp) rfl
  have p0_1 : (w.alloc (.cells #[.bool s1, v1, .int .i64 e1, .bool s2, v2, .int .i64 e2] 102)).cell? ⟨w.heap.size, 1, none⟩ = some (v1) := new_cell2 _ _ _ _ _ _ (by simp) rfl
  have p0_2 : (w.alloc (.cells #[.bool s1, v1, .int .i64 e1, .bool s2, v2, .int .i64 e2] 102)).cell? ⟨w.heap.size, 2, none⟩ = some (.int .i64 e1) := new_cell2 _ _ _ _ _ _ (by simp) rfl
  have p0_3 : (w.alloc (.cells #[.bool s1, v1, .int .i64 e1, .bool s2, v2, .int .i64 e2] 102)).cell? ⟨w.heap.size, 3, none⟩ = some (.bool s2) := new_cell2 _ _ _ _ _ _ (by simp) rfl
  have p0_4 : (w.alloc (.cells #[.bool s1, v1, .int .i64 e1, .bool s2, v2, .int .i64 e2] 102)).cell? ⟨w.heap.size, 4, none⟩ = some (v2) := new_cell2 _ _ _ _ _ _ (by simp) rfl
  have p0_5 : (w.alloc (.cells #[.bool s1, v1, .int .i64 e1, .bool s2, v2, .int .i64 e2] 102)).cell? ⟨w.heap.size, 5, none⟩ = some (.int .i64 e2) := new_cell2 _ _ _ _ _ _ (by simp) rfl
  replace r1 := r1.kept k0 (by omega)
  replace r2 := r2.kept k0 (by omega)
  have s0 : (w.alloc (.cells #[.bool s1, v1, .int .i64 e1, .bool s2, v2, .int .i64 e2] 102)).heap.size = w.heap.size + 1 := by simp
  obtain ⟨a1, c1, hv⟩ := Row.form' r1
  subst hv
  obtain ⟨a2, c2, hv⟩ := Row.form' r2
  subst hv
  have K := hide (k0)
  clear k0
  have S0 := hide s0
  clear s0
  go_enter Tryz.func100, Tryz.ntmps100
  go_wp2_with fail
  generalize (w.alloc (.cells #[.bool s1, .slice a1 l1.length c1, .int .i64 e1, .bool s2, .slice a2 l2.length c2, .int .i64 e2] 102)) = W at *
  refine (dok_spec s1 e1 hu1 hd1 _ r1).mono ?_
  rintro e w1 ⟨rfl, k1⟩
  replace r1 := r1.kept k1 (.inr (.inr (Nat.le_refl 0)))
  replace r2 := r2.kept k1 (.inr (.inr (Nat.le_refl 0)))
  replace p0_0 := k1.cell0 p0_0
  replace p0_1 := k1.cell0 p0_1
  replace p0_2 := k1.cell0 p0_2
  replace p0_3 := k1.cell0 p0_3
  replace p0_4 := k1.cell0 p0_4
  replace p0_5 := k1.cell0 p0_5
  replace K := hide ((unhide K).trans k1)
  have z2 := k1.size
  clear k1
  cases o1 : dokB s1 l1 e1
  · have FQ : Hid (Q = false) := by show _ = _; rw [← unhide HQ]; unfold iokB; rw [o1]; rfl
    clear r1 r2
    go_wp2_with fail
    go_ret
    exact ⟨by rw [unhide FQ]; rfl, unhide K⟩
  have O1 := hide o1
  clear o1
  go_wp2_with fail
  refine (dok_spec s2 e2 hu2 hd2 _ r2).mono ?_
  rintro e w3 ⟨rfl, k3⟩
  replace r1 := r1.kept k3 (.inr (.inr (Nat.le_refl 0)))
  replace r2 := r2.kept k3 (.inr (.inr (Nat.le_refl 0)))
  replace p0_0 := k3.cell0 p0_0
  replace p0_1 := k3.cell0 p0_1
  replace p0_2 := k3.cell0 p0_2
  replace p0_3 := k3.cell0 p0_3
  replace p0_4 := k3.cell0 p0_4
  replace p0_5 := k3.cell0 p0_5
  replace K := hide ((unhide K).trans k3)
  have z4 := k3.size
  clear k3
  cases o2 : dokB s2 l2 e2
  · have FQ : Hid (Q = false) := by show _ = _; rw [← unhide HQ]; unfold iokB; rw [o2, unhide O1]; rfl
    clear r1 r2
    go_wp2_with fail
    go_ret
    exact ⟨by rw [unhide FQ]; rfl, unhide K⟩
  have O2 := hide o2
  clear o2
  go_wp2_with fail
  refine (cmp4_ok s1 e1 hu1 hd1 s2 e2 hu2 hd2 _ r1 r2 (unhide O1) (unhide O2)).mono ?_
  rintro e w5 ⟨rfl, k5⟩
  replace r1 := r1.kept k5 (.inr (.inr (Nat.le_refl 0)))
  replace r2 := r2.kept k5 (.inr (.inr (Nat.le_refl 0)))
  replace p0_0 := k5.cell0 p0_0
  replace p0_1 := k5.cell0 p0_1
  replace p0_2 := k5.cell0 p0_2
  replace p0_3 := k5.cell0 p0_3
  replace p0_4 := k5.cell0 p0_4
  replace p0_5 := k5.cell0 p0_5
  replace K := hide ((unhide K).trans k5)
  have z6 := k5.size
  clear k5
  obtain ⟨C, hC⟩ : ∃ c, cmpD s1 l1 e1 s2 l2 e2 = c := ⟨_, rfl⟩
  rw [hC]
  have FQ : Hid (Q = decide (C ≤ 0)) := by show _ = _; rw [← unhide HQ, ← hC]; unfold iokB; rw [unhide O1, unhide O2]; rfl
  clear hC r1 r2
  go_wp2_with fail
  go_ret
  exact ⟨by rw [unhide FQ]; rfl, unhide K⟩

set_option maxHeartbeats 2000000 in
theorem ivok_impl {b1 b2 : Bool} {w1l w1h w2l w2h : Nat} {v1 v2 : Value} {l1 l2 : List Int} (s1 : Bool) (e1 : Int) (hu1 : e1 ≤ 9223372036854775807) (hd1 : -9223372036854775808 ≤ e1) (s2 : Bool) (e2 : Int) (hu2 : e2 ≤ 9223372036854775807) (hd2 : -9223372036854775808 ≤ e2) (w : World) (r1 : Row .i64 b1 w1l w1h w v1 l1) (r2 : Row .i64 b2 w2l w2h w v2 l2) :
    Calls Tryz.prog 107 #[.agg #[.bool s1, v1, .int .i64 e1, .bool s2, v2, .int .i64 e2]] w fun e w' => e = .returned (.bool (iokB s1 l1 e1 s2 l2 e2)) ∧ Kept 0 0 w w' := by
  obtain ⟨Q, hQ⟩ : ∃ q, iokB s1 l1 e1 s2 l2 e2 = q := ⟨_, rfl⟩
  rw [hQ]
  have HQ := hide hQ
  clear hQ
  have k0 : Kept 0 0 w (w.alloc (.cells #[.bool s1, v1, .int .i64 e1, .bool s2, v2, .int .i64 e2] 102)) := ((Kept.refl 0 0 w).alloc (.cells #[.bool s1, v1, .int .i64 e1, .bool s2, v2, .int .i64 e2] 102))
  have p0_0 : (w.alloc (.cells #[.bool s1, v1, .int .i64 e1, .bool s2, v2, .int .i64 e2] 102)).cell? ⟨w.heap.size, 0, none⟩ = some (.bool s1) := new_cell2 _ _ _ _ _ _ (by simp) rfl
  have p0_1 : (w.alloc (.cells #[.bool s1, v1, .int .i64 e1, .bool s2, v2, .int .i64 e2] 102)).cell? ⟨w.heap.size, 1, none⟩ = some (v1) := new_cell2 _ _ _ _ _ _ (by simp) rfl
  have p0_2 : (w.alloc (.cells #[.bool s1, v1, .int .i64 e1, .bool s2, v2, .int .i64 e2] 102)).cell? ⟨w.heap.size, 2, none⟩ = some (.int .i64 e1) := new_cell2 _ _ _ _ _ _ (by simp) rfl
  have p0_3 : (w.alloc (.cells #[.bool s1, v1, .int .i64 e1, .bool s2, v2, .int .i64 e2] 102)).cell? ⟨w.heap.size, 3, none⟩ = some (.bool s2) := new_cell2 _ _ _ _ _ _ (by simp) rfl
  have p0_4 : (w.alloc (.cells #[.bool s1, v1, .int .i64 e1, .bool s2, v2, .int .i64 e2] 102)).cell? ⟨w.heap.size, 4, none⟩ = some (v2) := new_cell2 _ _ _ _ _ _ (by simp) rfl
  have p0_5 : (w.alloc (.cells #[.bool s1, v1, .int .i64 e1, .bool s2, v2, .int .i64 e2] 102)).cell? ⟨w.heap.size, 5, none⟩ = some (.int .i64 e2) := new_cell2 _ _ _ _ _ _ (by simp) rfl
  replace r1 := r1.kept k0 (by omega)
  replace r2 := r2.kept k0 (by omega)
  have s0 : (w.alloc (.cells #[.bool s1, v1, .int .i64 e1, .bool s2, v2, .int .i64 e2] 102)).heap.size = w.heap.size + 1 := by simp
  obtain ⟨a1, c1, hv⟩ := Row.form' r1
  subst hv
  obtain ⟨a2, c2, hv⟩ := Row.form' r2
  subst hv
  have K := hide (k0)
  clear k0
  have S0 := hide s0
  clear s0
  go_enter Tryz.func107, Tryz.ntmps107
  go_wp2_with fail
  generalize (w.alloc (.cells #[.bool s1, .slice a1 l1.length c1, .int .i64 e1, .bool s2, .slice a2 l2.length c2, .int .i64 e2] 102)) = W at *
  refine (dok_impl s1 e1 hu1 hd1 _ r1).mono ?_
  rintro e w1 ⟨rfl, k1⟩
  replace r1 := r1.kept k1 (.inr (.inr (Nat.le_refl 0)))
  replace r2 := r2.kept k1 (.inr (.inr (Nat.le_refl 0)))
  replace p0_0 := k1.cell0 p0_0
  replace p0_1 := k1.cell0 p0_1
  replace p0_2 := k1.cell0 p0_2
  replace p0_3 := k1.cell0 p0_3
  replace p0_4 := k1.cell0 p0_4
  replace p0_5 := k1.cell0 p0_5
  replace K := hide ((unhide K).trans k1)
  have z2 := k1.size
  clear k1
  cases o1 : dokB s1 l1 e1
  · have FQ : Hid (Q = false) := by show _ = _; rw [← unhide HQ]; unfold iokB; rw [o1]; rfl
    clear r1 r2
    go_wp2_with fail
    go_ret
    exact ⟨by rw [unhide FQ]; rfl, unhide K⟩
  have O1 := hide o1
  clear o1
  go_wp2_with fail
  refine (dok_impl s2 e2 hu2 hd2 _ r2).mono ?_
  rintro e w3 ⟨rfl, k3⟩
  replace r1 := r1.kept k3 (.inr (.inr (Nat.le_refl 0)))
  replace r2 := r2.kept k3 (.inr (.inr (Nat.le_refl 0)))
  replace p0_0 := k3.cell0 p0_0
  replace p0_1 := k3.cell0 p0_1
  replace p0_2 := k3.cell0 p0_2
  replace p0_3 := k3.cell0 p0_3
  replace p0_4 := k3.cell0 p0_4
  replace p0_5 := k3.cell0 p0_5
  replace K := hide ((unhide K).trans k3)
  have z4 := k3.size
  clear k3
  cases o2 : dokB s2 l2 e2
  · have FQ : Hid (Q = false) := by show _ = _; rw [← unhide HQ]; unfold iokB; rw [o2, unhide O1]; rfl
    clear r1 r2
    go_wp2_with fail
    go_ret
    exact ⟨by rw [unhide FQ]; rfl, unhide K⟩
  have O2 := hide o2
  clear o2
  go_wp2_with fail
  refine (dcmp_impl s1 s2 e1 e2 hu1 hd1 hu2 hd2 _ r1 r2).mono ?_
  rintro e w5 ⟨rfl, k5⟩
  replace r1 := r1.kept k5 (.inr (.inr (Nat.le_refl 0)))
  replace r2 := r2.kept k5 (.inr (.inr (Nat.le_refl 0)))
  replace p0_0 := k5.cell0 p0_0
  replace p0_1 := k5.cell0 p0_1
  replace p0_2 := k5.cell0 p0_2
  replace p0_3 := k5.cell0 p0_3
  replace p0_4 := k5.cell0 p0_4
  replace p0_5 := k5.cell0 p0_5
  replace K := hide ((unhide K).trans k5)
  have z6 := k5.size
  clear k5
  obtain ⟨C, hC⟩ : ∃ c, cmpD s1 l1 e1 s2 l2 e2 = c := ⟨_, rfl⟩
  rw [hC]
  have FQ : Hid (Q = decide (C ≤ 0)) := by show _ = _; rw [← unhide HQ, ← hC]; unfold iokB; rw [unhide O1, unhide O2]; rfl
  clear hC r1 r2
  go_wp2_with fail
  go_ret
  exact ⟨by rw [unhide FQ]; rfl, unhide K⟩

end Go.Proofs.YthahoabkehcgbaaGreatDoor


namespace Go.Proofs.YthahoabkehcgbaaGreatDoor
open Go.RowKit
set_option linter.unusedVariables false
set_option maxRecDepth 8000
set_option linter.unusedSimpArgs false

/-- Whether the interval i is one. -/
def ivE (ds : List DE) (i : Nat) : Bool := iokB (ds.getD (2 * i) de0).1 (ds.getD (2 * i) de0).2.1 (ds.getD (2 * i) de0).2.2 (ds.getD (2 * i + 1) de0).1 (ds.getD (2 * i + 1) de0).2.1 (ds.getD (2 * i + 1) de0).2.2
def ivAll (ds : List DE) (m : Nat) : Bool := (List.range m).all (ivE ds)
/-- What IvMatOk answers. -/
def imokB (n : Int) (ds : List DE) (m : Nat) : Bool := (decide (1 ≤ n) && decide (n ≤ 4)) && (decide ((m : Int) = n * n) && ivAll ds m)
theorem iall_split {ds : List DE} {j m : Nat} (hj : j < m) (hf : ivE ds j = false) : ivAll ds m = false := by
  unfold ivAll
  rw [← Bool.not_eq_true, List.all_eq_true]
  intro h2
  have := h2 j (List.mem_range.2 hj)
  rw [this] at hf; cases hf
theorem iall_done {ds : List DE} {m : Nat} (h : ∀ i, i < m → ivE ds i = true) : ivAll ds m = true := by
  unfold ivAll
  rw [List.all_eq_true]
  intro d hd
  exact h d (List.mem_range.1 hd)
theorem imok_no1 {n : Int} {ds : List DE} {m : Nat} (h : (decide (1 ≤ n) && decide (n ≤ 4)) = false) : imokB n ds m = false := by unfold imokB; rw [h]; rfl
theorem imok_no2 {n : Int} {ds : List DE} {m : Nat} (h : ¬ (m : Int) = n * n) : imokB n ds m = false := by unfold imokB; rw [decide_eq_false h]; simp
theorem imok_yes {n : Int} {ds : List DE} {m : Nat} (h : (decide (1 ≤ n) && decide (n ≤ 4)) = true) (h2 : (m : Int) = n * n) : imokB n ds m = ivAll ds m := by unfold imokB; rw [h, decide_eq_true h2]; simp

set_option maxHeartbeats 2000000 in
theorem ivMatOk1_impl {bw bw' : Bool} {lo hi lo' hi' : Nat} {v u : Value} {zs ys : List Int} (s0 : Bool) (y0 : Int) (g1 : y0 ≤ 9223372036854775807) (g2 : -9223372036854775808 ≤ y0) (s1 : Bool) (y1 : Int) (g3 : y1 ≤ 9223372036854775807) (g4 : -9223372036854775808 ≤ y1) (w : World) (r : Row .i64 bw lo hi w v zs) (r' : Row .i64 bw' lo' hi' w u ys) :
    Calls Tryz.prog 106 #[.agg #[.bool s0, v, .int .i64 y0, .bool s1, u, .int .i64 y1]] w fun e w' => e = .returned (.bool (!iokB s0 zs y0 s1 ys y1)) ∧ Kept 0 0 w w' := by
  have k0 := (Kept.refl 0 0 w).alloc (.cells #[.bool s0, v, .int .i64 y0, .bool s1, u, .int .i64 y1] 102)
  have r0 := r.kept k0 (by omega)
  have r1 := r'.kept k0 (by omega)
  have c0 : (w.alloc (.cells #[.bool s0, v, .int .i64 y0, .bool s1, u, .int .i64 y1] 102)).cell? ⟨w.heap.size, 0, none⟩ = some (.bool s0) := new_cell2 _ _ _ _ _ _ rfl rfl
  have c1 : (w.alloc (.cells #[.bool s0, v, .int .i64 y0, .bool s1, u, .int .i64 y1] 102)).cell? ⟨w.heap.size, 1, none⟩ = some (v) := new_cell2 _ _ _ _ _ _ rfl rfl
  have c2 : (w.alloc (.cells #[.bool s0, v, .int .i64 y0, .bool s1, u, .int .i64 y1] 102)).cell? ⟨w.heap.size, 2, none⟩ = some (.int .i64 y0) := new_cell2 _ _ _ _ _ _ rfl rfl
  have c3 : (w.alloc (.cells #[.bool s0, v, .int .i64 y0, .bool s1, u, .int .i64 y1] 102)).cell? ⟨w.heap.size, 3, none⟩ = some (.bool s1) := new_cell2 _ _ _ _ _ _ rfl rfl
  have c4 : (w.alloc (.cells #[.bool s0, v, .int .i64 y0, .bool s1, u, .int .i64 y1] 102)).cell? ⟨w.heap.size, 4, none⟩ = some (u) := new_cell2 _ _ _ _ _ _ rfl rfl
  have c5 : (w.alloc (.cells #[.bool s0, v, .int .i64 y0, .bool s1, u, .int .i64 y1] 102)).cell? ⟨w.heap.size, 5, none⟩ = some (.int .i64 y1) := new_cell2 _ _ _ _ _ _ rfl rfl
  obtain ⟨a, c, rfl⟩ := Row.form' r
  obtain ⟨a', c', rfl⟩ := Row.form' r'
  clear r r'
  have hd := ivok_impl s0 y0 g1 g2 s1 y1 g3 g4 _ r0 r1
  obtain ⟨Q, hQ⟩ : ∃ q, iokB s0 zs y0 s1 ys y1 = q := ⟨_, rfl⟩
  rw [hQ] at hd ⊢
  clear hQ
  go_enter Tryz.func106, Tryz.ntmps106
  go_wp2_with fail
  refine hd.mono ?_
  rintro e w1 ⟨rfl, k1⟩
  have K1 := hide (k0.trans k1)
  clear hd k0 k1 r0 r1
  go_wp2
  go_ret
  exact ⟨rfl, unhide K1⟩

set_option maxHeartbeats 4000000 in
theorem indexBadV_impl {lo hi n : Nat} {v : Value} {ds : List DE} (w : World) (hw : WfD ds) (r : Ivs lo hi w v ds n) :
    Calls Tryz.prog 165 #[v, .func (.func 106) #[] #[]] w fun e w' => ∃ k : Int, e = .returned (.int .i64 k) ∧ decide (0 ≤ k) = (!ivAll ds n) ∧ Kept 0 0 w w' := by
  obtain ⟨a, c, rfl, hc1, hc2⟩ := r.form
  have hm : n ≤ 9223372036854775807 := by unfold maxLen at hc2; omega
  have HN := hide r.len
  have R := hide r
  have HW := hide hw
  clear r hc1 hc2 hw
  go_enter Tryz.func165, Tryz.ntmps165
  go_wp2
  go_loopw [8] (fun s8 wr => ∃ j : Nat, s8 = .int .i64 j ∧ j ≤ n ∧ Hid (∀ i, i < j → ivE ds i = true) ∧ Kept 0 0 w wr) (fun s8 _ => n - (intOf s8).toNat)
  case atStart => exact ⟨0, rfl, Nat.zero_le _, fun i hi => by omega, Kept.refl _ _ _⟩
  case round =>
    obtain ⟨j, rfl, hj, hall, k⟩ := hrel
    by_cases hlt : j < n
    · skip
      obtain ⟨g, off, ln, ln', rfl, -, -, -, b, kk, b', kk', c0, c1, c2, d0, d1, d2, hln, hln', rr, rr'⟩ := ((unhide R).kept k (by omega)).at (i := j) hlt
      obtain ⟨s0, hs0'⟩ : ∃ q, q = (ds.getD (2 * j) de0).1 := ⟨_, rfl⟩
      obtain ⟨y0, hy0⟩ : ∃ q, q = (ds.getD (2 * j) de0).2.2 := ⟨_, rfl⟩
      obtain ⟨z0, hz0⟩ : ∃ q, q = (ds.getD (2 * j) de0).2.1 := ⟨_, rfl⟩
      obtain ⟨s1, hs1'⟩ : ∃ q, q = (ds.getD (2 * j + 1) de0).1 := ⟨_, rfl⟩
      obtain ⟨y1, hy1⟩ : ∃ q, q = (ds.getD (2 * j + 1) de0).2.2 := ⟨_, rfl⟩
      obtain ⟨z1, hz1⟩ : ∃ q, q = (ds.getD (2 * j + 1) de0).2.1 := ⟨_, rfl⟩
      have hy := unhide HW (2 * j) (by rw [unhide HN]; omega)
      have hy' := unhide HW (2 * j + 1) (by rw [unhide HN]; omega)
      rw [← hs0'] at c0
      rw [← hy0] at c2 hy
      rw [← hz0] at hln rr
      rw [← hs1'] at d0
      rw [← hy1] at d2 hy'
      rw [← hz1] at hln' rr'
      have hE : Hid (ivE ds j = iokB s0 z0 y0 s1 z1 y1) := by show _ = _; rw [hs0', hy0, hz0, hs1', hy1, hz1]; rfl
      have hJ := hide hlt
      clear hs0' hy0 hz0 hln hs1' hy1 hz1 hln'
      have hc := ivMatOk1_impl s0 y0 hy.1 hy.2 s1 y1 hy'.1 hy'.2 wr rr rr'
      clear rr hy rr' hy'
      obtain ⟨QQ, hQQ⟩ : ∃ q, iokB s0 z0 y0 s1 z1 y1 = q := ⟨_, rfl⟩
      rw [hQQ] at hc hE
      clear hQQ
      have hw1 : IntKind.i64.wrap ((j : Int) + 1) = ((j + 1 : Nat) : Int) := by rw [IntKind.wrap_i64]; omega
      go_wp2_with fail
      refine hc.mono ?_
      rintro e w2 ⟨rfl, k2⟩
      have K2 := hide (k.trans k2)
      clear hc k k2 c0 c1 c2 d0 d1 d2
      cases hd : QQ
      · have HD : Hid (ivE ds j = false) := by show _ = _; rw [unhide hE, hd]
        clear hE
        subst hd
        go_wp2
        go_ret
        exact ⟨j, rfl, by rw [iall_split (unhide hJ) (unhide HD)]; simp, unhide K2⟩
      · have HD : Hid (ivE ds j = true) := by show _ = _; rw [unhide hE, hd]
        clear hE
        subst hd
        go_wp2
        go_roundw
        case rel => exact ⟨j + 1, by simp, hlt, fun i hi => by rcases Nat.lt_succ_iff_lt_or_eq.1 hi with h | h; exact unhide hall i h; subst h; exact unhide HD, unhide K2⟩
        case measure => simp [intOf]; omega
    · have hjn : j = n := by omega
      subst hjn
      go_wp2
      go_ret
      exact ⟨-1, rfl, by rw [iall_done (fun i hi => unhide hall i hi)]; rfl, k⟩

theorem containsBadV_impl {lo hi n : Nat} {v : Value} {ds : List DE} (w : World) (hw : WfD ds) (r : Ivs lo hi w v ds n) :
    Calls Tryz.prog 105 #[v, .func (.func 106) #[] #[]] w fun e w' => e = .returned (.bool (!ivAll ds n)) ∧ Kept 0 0 w w' := by
  have hi' := indexBadV_impl w hw r
  obtain ⟨a, c, rfl, -, -⟩ := r.form
  clear r hw
  go_enter Tryz.func105, Tryz.ntmps105
  go_wp2_with fail
  refine hi'.mono ?_
  rintro e w1 ⟨k, rfl, hk, k1⟩
  have HK := hide hk
  clear hk hi'
  go_wp2
  go_ret
  exact ⟨by rw [← unhide HK]; rfl, k1⟩

set_option maxHeartbeats 4000000 in
theorem ivMatOk_impl {lo hi m : Nat} {v : Value} {ds : List DE} (n : Int) (w : World) (hw : WfD ds) (r : Ivs lo hi w v ds m) :
    Calls Tryz.prog 52 #[.agg #[.int .i64 n, v]] w fun e w' => e = .returned (.bool (imokB n ds m)) ∧ Kept 0 0 w w' := by
  have k0 := (Kept.refl 0 0 w).alloc (.cells #[.int .i64 n, v] 28)
  have r0 := r.kept k0 (by omega)
  have c0 : (w.alloc (.cells #[.int .i64 n, v] 28)).cell? ⟨w.heap.size, 0, none⟩ = some (.int .i64 n) := new_cell2 _ _ _ _ _ _ rfl rfl
  have c1 : (w.alloc (.cells #[.int .i64 n, v] 28)).cell? ⟨w.heap.size, 1, none⟩ = some v := new_cell2 _ _ _ _ _ _ rfl rfl
  obtain ⟨a, c, rfl, -, -⟩ := r.form
  clear r
  have hs := isSide_impl n (w.alloc (.cells #[.int .i64 n, .slice a m c] 28))
  have hcb := containsBadV_impl _ hw r0
  cases hsd : (decide (1 ≤ n) && decide (n ≤ 4))
  · rw [hsd] at hs
    have HB := hide (imok_no1 (ds := ds) (m := m) hsd)
    clear hsd hcb
    go_enter Tryz.func52, Tryz.ntmps52
    go_wp2_with fail
    refine hs.mono ?_
    rintro e w1 ⟨rfl, rfl⟩
    go_wp2
    go_ret
    exact ⟨by rw [unhide HB]; rfl, k0⟩
  · rw [hsd] at hs
    have hn : 1 ≤ n ∧ n ≤ 4 := by simpa using hsd
    have hnn : n * n ≤ 16 ∧ 0 ≤ n * n := by
      have h5 : n = 1 ∨ n = 2 ∨ n = 3 ∨ n = 4 := by omega
      rcases h5 with h | h | h | h <;> subst h <;> decide
    obtain ⟨q, hq⟩ : ∃ q, n * n = q := ⟨_, rfl⟩
    have hwr : IntKind.i64.wrap (n * n) = q := by rw [IntKind.wrap_i64]; omega
    have HSD := hide hsd
    have HQ := hide hq
    clear hsd hn hq hnn
    by_cases hl : (m : Int) = q
    · have HB := hide (imok_yes (ds := ds) (m := m) (unhide HSD) (hl.trans (unhide HQ).symm))
      go_enter Tryz.func52, Tryz.ntmps52
      go_wp2_with fail
      refine hs.mono ?_
      rintro e w1 ⟨rfl, rfl⟩
      clear hs
      go_wp2_with fail
      refine hcb.mono ?_
      rintro e w2 ⟨rfl, k2⟩
      have K2 := hide (k0.trans k2)
      clear hcb k0 k2 r0 hl
      go_wp2
      go_ret
      exact ⟨by rw [unhide HB]; simp, unhide K2⟩
    · have HB := hide (imok_no2 (n := n) (ds := ds) (m := m) (fun e => hl (e.trans (unhide HQ))))
      clear hcb
      go_enter Tryz.func52, Tryz.ntmps52
      go_wp2_with fail
      refine hs.mono ?_
      rintro e w1 ⟨rfl, rfl⟩
      clear hs
      go_wp2
      go_ret
      exact ⟨by rw [unhide HB]; rfl, k0⟩

set_option maxHeartbeats 4000000 in
theorem ivMatOk_spec {lo hi m : Nat} {v : Value} {ds : List DE} (n : Int) (w : World) (hw : WfD ds) (r : Ivs lo hi w v ds m) :
    Calls Tryz.prog 49 #[.agg #[.int .i64 n, v]] w fun e w' => e = .returned (.bool (imokB n ds m)) ∧ Kept 0 0 w w' := by
  have k0 := (Kept.refl 0 0 w).alloc (.cells #[.int .i64 n, v] 28)
  have r0 := r.kept k0 (by omega)
  have m0 : (w.alloc (.cells #[.int .i64 n, v] 28)).cell? ⟨w.heap.size, 0, none⟩ = some (.int .i64 n) := new_cell2 _ _ _ _ _ _ rfl rfl
  have m1 : (w.alloc (.cells #[.int .i64 n, v] 28)).cell? ⟨w.heap.size, 1, none⟩ = some v := new_cell2 _ _ _ _ _ _ rfl rfl
  obtain ⟨a, c, rfl, -, -⟩ := r.form
  clear r
  by_cases h1 : n < 1
  · have HB := hide (imok_no1 (n := n) (ds := ds) (m := m) (by rw [decide_eq_false (show ¬ 1 ≤ n by omega)]; rfl))
    go_enter Tryz.func49, Tryz.ntmps49
    go_wp2
    go_ret
    exact ⟨by rw [unhide HB]; rfl, k0⟩
  by_cases h2 : 4 < n
  · have HB := hide (imok_no1 (n := n) (ds := ds) (m := m) (by rw [decide_eq_false (show ¬ n ≤ 4 by omega)]; simp))
    go_enter Tryz.func49, Tryz.ntmps49
    go_wp2
    go_ret
    exact ⟨by rw [unhide HB]; rfl, k0⟩
  have hsd : (decide (1 ≤ n) && decide (n ≤ 4)) = true := by simp; omega
  have hnn : n * n ≤ 16 ∧ 0 ≤ n * n := by
    have h5 : n = 1 ∨ n = 2 ∨ n = 3 ∨ n = 4 := by omega
    rcases h5 with h | h | h | h <;> subst h <;> decide
  obtain ⟨q, hq⟩ : ∃ q, n * n = q := ⟨_, rfl⟩
  have hwr : IntKind.i64.wrap (n * n) = q := by rw [IntKind.wrap_i64]; omega
  have HSD := hide hsd
  have HQ := hide hq
  have HN16 : Hid (q ≤ 16) := by show _ ≤ _; omega
  clear hsd hq hnn
  by_cases hl : (m : Int) = q
  · have HB := hide (imok_yes (ds := ds) (m := m) (unhide HSD) (hl.trans (unhide HQ).symm))
    have hd16 : m ≤ 16 := by have := unhide HN16; omega
    have HN := hide r0.len
    have R := hide r0
    have HW := hide hw
    clear r0 hw
    go_enter Tryz.func49, Tryz.ntmps49
    go_wp2
    generalize (w.alloc (.cells #[.int .i64 n, .slice a m c] 28)) = W at *
    go_loopw [3] (fun s3 wr => ∃ j : Nat, s3 = .int .i64 j ∧ j ≤ m ∧ Hid (∀ i, i < j → ivE ds i = true) ∧ Kept 0 0 W wr) (fun s3 _ => m - (intOf s3).toNat)
    case atStart => exact ⟨0, rfl, Nat.zero_le _, fun i hi => by omega, Kept.refl _ _ _⟩
    case round =>
      obtain ⟨j, rfl, hj, hall, k⟩ := hrel
      have c1' := k.cell0 m1
      by_cases hlt : j < m
      · skip
        obtain ⟨g, off, ln, ln', rfl, -, -, -, b, kk, b', kk', c0, c1, c2, d0, d1, d2, hln, hln', rr, rr'⟩ := ((unhide R).kept k (by omega)).at (i := j) hlt
        obtain ⟨s0, hs0'⟩ : ∃ q, q = (ds.getD (2 * j) de0).1 := ⟨_, rfl⟩
        obtain ⟨y0, hy0⟩ : ∃ q, q = (ds.getD (2 * j) de0).2.2 := ⟨_, rfl⟩
        obtain ⟨z0, hz0⟩ : ∃ q, q = (ds.getD (2 * j) de0).2.1 := ⟨_, rfl⟩
        obtain ⟨s1, hs1'⟩ : ∃ q, q = (ds.getD (2 * j + 1) de0).1 := ⟨_, rfl⟩
        obtain ⟨y1, hy1⟩ : ∃ q, q = (ds.getD (2 * j + 1) de0).2.2 := ⟨_, rfl⟩
        obtain ⟨z1, hz1⟩ : ∃ q, q = (ds.getD (2 * j + 1) de0).2.1 := ⟨_, rfl⟩
        have hy := unhide HW (2 * j) (by rw [unhide HN]; omega)
        have hy' := unhide HW (2 * j + 1) (by rw [unhide HN]; omega)
        rw [← hs0'] at c0
        rw [← hy0] at c2 hy
        rw [← hz0] at hln rr
        rw [← hs1'] at d0
        rw [← hy1] at d2 hy'
        rw [← hz1] at hln' rr'
        have hE : Hid (ivE ds j = iokB s0 z0 y0 s1 z1 y1) := by show _ = _; rw [hs0', hy0, hz0, hs1', hy1, hz1]; rfl
        have hJ := hide hlt
        clear hs0' hy0 hz0 hln hs1' hy1 hz1 hln'
        have hc := ivok_spec s0 y0 hy.1 hy.2 s1 y1 hy'.1 hy'.2 wr rr rr'
        clear rr hy rr' hy'
        obtain ⟨QQ, hQQ⟩ : ∃ q, iokB s0 z0 y0 s1 z1 y1 = q := ⟨_, rfl⟩
        rw [hQQ] at hc hE
        clear hQQ
        have hw1 : IntKind.i64.wrap ((j : Int) + 1) = ((j + 1 : Nat) : Int) := by rw [IntKind.wrap_i64]; omega
        go_wp2_with fail
        refine hc.mono ?_
        rintro e w2 ⟨rfl, k2⟩
        have K2 := hide (k.trans k2)
        clear hc k k2 c0 c1 c2 d0 d1 d2 c1'
        cases hd : QQ
        · have HD : Hid (ivE ds j = false) := by show _ = _; rw [unhide hE, hd]
          clear hE
          subst hd
          go_wp2
          go_ret
          exact ⟨by rw [unhide HB, iall_split (unhide hJ) (unhide HD)]; rfl, k0.trans (unhide K2)⟩
        · have HD : Hid (ivE ds j = true) := by show _ = _; rw [unhide hE, hd]
          clear hE
          subst hd
          go_wp2
          go_roundw
          case rel => exact ⟨j + 1, by simp, hlt, fun i hi => by rcases Nat.lt_succ_iff_lt_or_eq.1 hi with h | h; exact unhide hall i h; subst h; exact unhide HD, unhide K2⟩
          case measure => simp [intOf]; omega
      · have hjn : j = m := by omega
        subst hjn
        go_wp2
        go_ret
        exact ⟨by rw [unhide HB, iall_done (fun i hi => unhide hall i hi)]; rfl, k0.trans k⟩
  · have HB := hide (imok_no2 (n := n) (ds := ds) (m := m) (fun e => hl (e.trans (unhide HQ))))
    go_enter Tryz.func49, Tryz.ntmps49
    go_wp2
    go_ret
    exact ⟨by rw [unhide HB]; rfl, k0⟩

end Go.Proofs.YthahoabkehcgbaaGreatDoor


namespace Go.Proofs.YthahoabkehcgbaaGreatDoor
open Go.RowKit
set_option linter.unusedVariables false
set_option maxRecDepth 8000
set_option linter.unusedSimpArgs false

end Go.Proofs.YthahoabkehcgbaaGreatDoor


namespace Go.Proofs.YthahoabkehcgbaaGreatDoor
open Go.RowKit
set_option linter.unusedVariables false
set_option maxRecDepth 8000
set_option linter.unusedSimpArgs false

/-- All are told. -/
def allB (B : Nat → Bool) (n : Nat) : Bool := (List.range n).all B
theorem allB_no {B : Nat → Bool} {n j : Nat} (hj : j < n) (h : B j = false) : allB B n = false := by
  unfold allB
  rw [← Bool.not_eq_true, List.all_eq_true]
  intro h2
  have := h2 j (List.mem_range.2 hj)
  rw [this] at h; cases h
theorem allB_yes {B : Nat → Bool} {n : Nat} (h : ∀ i, i < n → B i = true) : allB B n = true := by
  unfold allB
  rw [List.all_eq_true]
  exact fun i hi => h i (List.mem_range.1 hi)
def telN (B : Nat → Bool) (n : Nat) (m : Int) : Int := if allB B n = true then m else 0
theorem map_at (E : Nat → DE) (n i : Nat) (h : i < n) : ((List.range n).map E).getD i de0 = E i := by simp [List.getD, h]

theorem Fill.kept {lo g n j : Nat} {ds : List DE} {w w' : World} (h : Fill lo g n ds j w) (k : Kept 0 0 w w') : Fill lo g n ds j w' := by
  obtain ⟨hlt, ⟨b, hb, hmono⟩, hcell, hloose⟩ := h
  have hs := k.size
  exact ⟨by omega, ⟨b, fun i hi => ⟨fun e => by have := (hb i hi).1 e; omega, (hb i hi).2.keptE k (by omega) (by omega)⟩, hmono⟩, fun k' hk' => by obtain ⟨x, hx⟩ := hcell k' hk'; exact ⟨x, k.cell0 hx⟩, fun k' hk' => k.loose0 (a := ⟨g, k', none⟩) hlt (hloose k' hk')⟩

end Go.Proofs.YthahoabkehcgbaaGreatDoor


namespace Go.Proofs.YthahoabkehcgbaaGreatDoor
open Go.RowKit
set_option linter.unusedVariables false
set_option maxRecDepth 8000
set_option linter.unusedSimpArgs false

theorem Fill.keptW {lo g n l h : Nat} {ds : List DE} {w w' : World} (f : Fill lo g n ds 0 w) (k : Kept l h w w') (hg : g < l ∨ h ≤ g) : Fill lo g n ds 0 w' := by
  have hb := k.block g f.lt hg
  exact ⟨Nat.lt_of_lt_of_le f.lt k.size, ⟨fun _ => 0, fun i hi => by omega, fun i i' _ hi => by omega⟩, fun q hq => by obtain ⟨x, hx⟩ := f.cell q hq; exact ⟨x, (World.cell?_of_block (w := w) (a := ⟨g, q, none⟩) hb).trans hx⟩, fun q hq => (World.frozen?_of_block (w := w) (a := ⟨g, q, none⟩) hb).trans (f.loose q hq)⟩

theorem limT_le (ds : List DE) (h : ∀ i, i < ds.length → (ds.getD i de0).2.1.length ≤ 100) : ∀ j, j ≤ ds.length → limT ds j ≤ 100 * j
  | 0, _ => Nat.le_refl _
  | j + 1, hj => by
    have h1 := limT_le ds h j (by omega)
    have h2 := h j (by omega)
    show limT ds j + _ ≤ _
    omega
end Go.Proofs.YthahoabkehcgbaaGreatDoor


namespace Go.Proofs.YthahoabkehcgbaaGreatDoor
open Go.RowKit
set_option linter.unusedVariables false
set_option maxRecDepth 8000
set_option linter.unusedSimpArgs false

theorem iok_both {s0 s1 : Bool} {z0 z1 : List Int} {y0 y1 : Int} (h : iokB s0 z0 y0 s1 z1 y1 = true) : dokB s0 z0 y0 = true ∧ dokB s1 z1 y1 = true := by
  unfold iokB at h
  simp only [Bool.and_eq_true] at h
  first | exact ⟨h.1.1, h.1.2⟩ | exact ⟨h.1, h.2.1⟩
theorem imok_parts {n : Int} {ds : List DE} {m : Nat} (h : imokB n ds m = true) : 1 ≤ n ∧ n ≤ 4 ∧ (m : Int) = n * n ∧ ∀ q, q < 2 * m → dOkE (ds.getD q de0) = true := by
  unfold imokB at h
  simp only [Bool.and_eq_true, decide_eq_true_eq] at h
  refine ⟨h.1.1, h.1.2, h.2.1, fun q hq => ?_⟩
  have h2 := h.2.2
  unfold ivAll at h2
  rw [List.all_eq_true] at h2
  have h3 := iok_both (show iokB _ _ _ _ _ _ = true from h2 (q / 2) (List.mem_range.2 (by omega)))
  by_cases e : q % 2 = 0
  · have : q = 2 * (q / 2) := by omega
    rw [this]; exact h3.1
  · have : q = 2 * (q / 2) + 1 := by omega
    rw [this]; exact h3.2

end Go.Proofs.YthahoabkehcgbaaGreatDoor

