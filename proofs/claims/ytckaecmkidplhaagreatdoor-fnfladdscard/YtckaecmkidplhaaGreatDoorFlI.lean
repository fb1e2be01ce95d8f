/-
  Floats: what the program's FlAdd, FlMul and FlSub answer.
-/
import Derived.Test.YtckaecmkidplhaaGreatDoorFlA4
import Derived.Test.YtckaecmkidplhaaGreatDoorFlMu
import Derived.Deep.RegionHeld3
import Derived.Deep.DeepCutAuto
namespace Go.Proofs.YtckaecmkidplhaaGreatDoor
open Go.RowKit
set_option linter.unusedVariables false
set_option maxRecDepth 8000
set_option linter.unusedSimpArgs false

theorem in_impl_floatOf_t : ∀ (w : World) (args : Array Value), (callFunc 47 args).run Tryz.prog w = .ok (.enter 47 args) w := enters Tryz.func47 (by decide) (fun h => by cases h)

theorem in_impl_addFloats_t : ∀ (w : World) (args : Array Value), (callFunc 46 args).run Tryz.prog w = .ok (.enter 46 args) w := enters Tryz.func46 (by decide) (fun h => by cases h)

theorem in_impl_FlAdd_t : ∀ (w : World) (args : Array Value), (callFunc 10 args).run Tryz.prog w = .ok (.enter 10 args) w := enters Tryz.func10 (by decide) (fun h => by cases h)

def okM (k1 : Int) (n1 : Bool) (m1 e1 k2 : Int) (n2 : Bool) (m2 e2 mode : Int) : Bool := flok k1 n1 m1 e1 && flok k2 n2 m2 e2 && modeB mode
def faddQ (k1 : Int) (n1 : Bool) (m1 e1 k2 : Int) (n2 : Bool) (m2 e2 mode : Int) : (Int × Bool × Int × Int) × Int := if okM k1 n1 m1 e1 k2 n2 m2 e2 mode = true then addQ k1 n1 m1 e1 k2 n2 m2 e2 mode else ((3, false, 0, 0), 16)

theorem addI_any {k1 : Int} {n1 : Bool} {m1 e1 k2 : Int} {n2 : Bool} {m2 e2 : Int} (h1 : flok k1 n1 m1 e1 = true) (h2 : flok k2 n2 m2 e2 = true) (mode : Int) (hm0 : 0 ≤ mode) (hm4 : mode ≤ 4) (w : World) (T : TabB w) :
    Calls Tryz.prog 46 #[ivl k1 n1 m1 e1, ivl k2 n2 m2 e2, .int .i64 mode] w fun e' w' => e' = .returned (.tuple #[flq (addQ k1 n1 m1 e1 k2 n2 m2 e2 mode).1, .int .i64 (addQ k1 n1 m1 e1 k2 n2 m2 e2 mode).2]) ∧ Kept 0 0 w w' := by
  rcases flok_ways h1 with ⟨rfl, a11, a21, a31, a41, -⟩ | ⟨rfl, rfl, rfl⟩ | ⟨rfl, rfl, rfl⟩ | ⟨rfl, rfl, rfl, rfl⟩
  · rcases flok_ways h2 with ⟨rfl, a12, a22, a32, a42, -⟩ | ⟨rfl, rfl, rfl⟩ | ⟨rfl, rfl, rfl⟩ | ⟨rfl, rfl, rfl, rfl⟩
    · exact addI_num_num n1 m1 e1 n2 m2 e2 a11 a21 a31 a41 a12 a22 a32 a42 mode hm0 hm4 w T
    · exact addI_num_nought n1 m1 e1 n2 a11 a21 a31 a41 mode hm0 hm4 w T
    · exact addI_num_inf n1 m1 e1 n2 a11 a21 a31 a41 mode hm0 hm4 w
    · exact addI_num_nan n1 m1 e1 a11 a21 a31 a41 mode hm0 hm4 w
  · rcases flok_ways h2 with ⟨rfl, a12, a22, a32, a42, -⟩ | ⟨rfl, rfl, rfl⟩ | ⟨rfl, rfl, rfl⟩ | ⟨rfl, rfl, rfl, rfl⟩
    · exact addI_nought_num n1 n2 m2 e2 a12 a22 a32 a42 mode hm0 hm4 w T
    · exact addI_nought_nought n1 n2 mode hm0 hm4 w T
    · exact addI_nought_inf n1 n2 mode hm0 hm4 w
    · exact addI_nought_nan n1 mode hm0 hm4 w
  · rcases flok_ways h2 with ⟨rfl, a12, a22, a32, a42, -⟩ | ⟨rfl, rfl, rfl⟩ | ⟨rfl, rfl, rfl⟩ | ⟨rfl, rfl, rfl, rfl⟩
    · exact addI_inf_num n1 n2 m2 e2 a12 a22 a32 a42 mode hm0 hm4 w
    · exact addI_inf_nought n1 n2 mode hm0 hm4 w
    · cases n1 <;> cases n2
      · exact addI_inf_inf_false_false mode hm0 hm4 w
      · exact addI_inf_inf_false_true mode hm0 hm4 w
      · exact addI_inf_inf_true_false mode hm0 hm4 w
      · exact addI_inf_inf_true_true mode hm0 hm4 w
    · exact addI_inf_nan n1 mode hm0 hm4 w
  · rcases flok_ways h2 with ⟨rfl, a12, a22, a32, a42, -⟩ | ⟨rfl, rfl, rfl⟩ | ⟨rfl, rfl, rfl⟩ | ⟨rfl, rfl, rfl, rfl⟩
    · exact addI_nan_num n2 m2 e2 a12 a22 a32 a42 mode hm0 hm4 w
    · exact addI_nan_nought n2 mode hm0 hm4 w
    · exact addI_nan_inf n2 mode hm0 hm4 w
    · exact addI_nan_nan mode hm0 hm4 w

theorem okM_iff {k1 : Int} {n1 : Bool} {m1 e1 k2 : Int} {n2 : Bool} {m2 e2 mode : Int} (h : okM k1 n1 m1 e1 k2 n2 m2 e2 mode = true) : flok k1 n1 m1 e1 = true ∧ flok k2 n2 m2 e2 = true ∧ 0 ≤ mode ∧ mode ≤ 4 := by
  unfold okM modeB at h
  simp only [Bool.and_eq_true, decide_eq_true_eq] at h
  exact ⟨h.1.1, h.1.2, h.2.1, h.2.2⟩

set_option maxHeartbeats 2000000 in
theorem fladd_impl (k1 : Int) (n1 : Bool) (m1 e1 k2 : Int) (n2 : Bool) (m2 e2 mode : Int) (w : World) (T : TabB w) :
    Calls Tryz.prog 10 #[flv k1 n1 m1 e1, flv k2 n2 m2 e2, .int .i64 mode] w fun e' w' => e' = .returned (.tuple #[flq (faddQ k1 n1 m1 e1 k2 n2 m2 e2 mode).1, .int .i64 (faddQ k1 n1 m1 e1 k2 n2 m2 e2 mode).2]) ∧ Kept 0 0 w w' := by
  obtain ⟨Q, hQ⟩ : ∃ q, faddQ k1 n1 m1 e1 k2 n2 m2 e2 mode = q := ⟨_, rfl⟩
  rw [hQ]
  have HQ := hide hQ
  clear hQ
  have k0 : Kept 0 0 w (((w.alloc (.cells #[.int .i64 k1, .bool n1, .int .i64 m1, .int .i64 e1] 25)).alloc (.cells #[.int .i64 k2, .bool n2, .int .i64 m2, .int .i64 e2] 25)).alloc (.cells #[.int .i64 0, .bool false, .int .i64 0, .int .i64 0] 25)) := ((((Kept.refl 0 0 w).alloc (.cells #[.int .i64 k1, .bool n1, .int .i64 m1, .int .i64 e1] 25)).alloc (.cells #[.int .i64 k2, .bool n2, .int .i64 m2, .int .i64 e2] 25)).alloc (.cells #[.int .i64 0, .bool false, .int .i64 0, .int .i64 0] 25))
  have p0 : (((w.alloc (.cells #[.int .i64 k1, .bool n1, .int .i64 m1, .int .i64 e1] 25)).alloc (.cells #[.int .i64 k2, .bool n2, .int .i64 m2, .int .i64 e2] 25)).alloc (.cells #[.int .i64 0, .bool false, .int .i64 0, .int .i64 0] 25)).cell? ⟨w.heap.size, 0, none⟩ = some (.int .i64 k1) := old_cell _ (old_cell _ (new_cell2 _ _ _ _ _ _ (by simp) rfl))
  have p1 : (((w.alloc (.cells #[.int .i64 k1, .bool n1, .int .i64 m1, .int .i64 e1] 25)).alloc (.cells #[.int .i64 k2, .bool n2, .int .i64 m2, .int .i64 e2] 25)).alloc (.cells #[.int .i64 0, .bool false, .int .i64 0, .int .i64 0] 25)).cell? ⟨w.heap.size, 1, none⟩ = some (.bool n1) := old_cell _ (old_cell _ (new_cell2 _ _ _ _ _ _ (by simp) rfl))
  have p2 : (((w.alloc (.cells #[.int .i64 k1, .bool n1, .int .i64 m1, .int .i64 e1] 25)).alloc (.cells #[.int .i64 k2, .bool n2, .int .i64 m2, .int .i64 e2] 25)).alloc (.cells #[.int .i64 0, .bool false, .int .i64 0, .int .i64 0] 25)).cell? ⟨w.heap.size, 2, none⟩ = some (.int .i64 m1) := old_cell _ (old_cell _ (new_cell2 _ _ _ _ _ _ (by simp) rfl))
  have p3 : (((w.alloc (.cells #[.int .i64 k1, .bool n1, .int .i64 m1, .int .i64 e1] 25)).alloc (.cells #[.int .i64 k2, .bool n2, .int .i64 m2, .int .i64 e2] 25)).alloc (.cells #[.int .i64 0, .bool false, .int .i64 0, .int .i64 0] 25)).cell? ⟨w.heap.size, 3, none⟩ = some (.int .i64 e1) := old_cell _ (old_cell _ (new_cell2 _ _ _ _ _ _ (by simp) rfl))
  have t0 : (((w.alloc (.cells #[.int .i64 k1, .bool n1, .int .i64 m1, .int .i64 e1] 25)).alloc (.cells #[.int .i64 k2, .bool n2, .int .i64 m2, .int .i64 e2] 25)).alloc (.cells #[.int .i64 0, .bool false, .int .i64 0, .int .i64 0] 25)).cell? ⟨w.heap.size + 1, 0, none⟩ = some (.int .i64 k2) := old_cell _ (new_cell2 _ _ _ _ _ _ (by simp) rfl)
  have t1 : (((w.alloc (.cells #[.int .i64 k1, .bool n1, .int .i64 m1, .int .i64 e1] 25)).alloc (.cells #[.int .i64 k2, .bool n2, .int .i64 m2, .int .i64 e2] 25)).alloc (.cells #[.int .i64 0, .bool false, .int .i64 0, .int .i64 0] 25)).cell? ⟨w.heap.size + 1, 1, none⟩ = some (.bool n2) := old_cell _ (new_cell2 _ _ _ _ _ _ (by simp) rfl)
  have t2 : (((w.alloc (.cells #[.int .i64 k1, .bool n1, .int .i64 m1, .int .i64 e1] 25)).alloc (.cells #[.int .i64 k2, .bool n2, .int .i64 m2, .int .i64 e2] 25)).alloc (.cells #[.int .i64 0, .bool false, .int .i64 0, .int .i64 0] 25)).cell? ⟨w.heap.size + 1, 2, none⟩ = some (.int .i64 m2) := old_cell _ (new_cell2 _ _ _ _ _ _ (by simp) rfl)
  have t3 : (((w.alloc (.cells #[.int .i64 k1, .bool n1, .int .i64 m1, .int .i64 e1] 25)).alloc (.cells #[.int .i64 k2, .bool n2, .int .i64 m2, .int .i64 e2] 25)).alloc (.cells #[.int .i64 0, .bool false, .int .i64 0, .int .i64 0] 25)).cell? ⟨w.heap.size + 1, 3, none⟩ = some (.int .i64 e2) := old_cell _ (new_cell2 _ _ _ _ _ _ (by simp) rfl)
  have q0 : (((w.alloc (.cells #[.int .i64 k1, .bool n1, .int .i64 m1, .int .i64 e1] 25)).alloc (.cells #[.int .i64 k2, .bool n2, .int .i64 m2, .int .i64 e2] 25)).alloc (.cells #[.int .i64 0, .bool false, .int .i64 0, .int .i64 0] 25)).cell? ⟨w.heap.size + 2, 0, none⟩ = some (.int .i64 0) := new_cell2 _ _ _ _ _ _ (by simp) rfl
  have qf0 : (((w.alloc (.cells #[.int .i64 k1, .bool n1, .int .i64 m1, .int .i64 e1] 25)).alloc (.cells #[.int .i64 k2, .bool n2, .int .i64 m2, .int .i64 e2] 25)).alloc (.cells #[.int .i64 0, .bool false, .int .i64 0, .int .i64 0] 25)).frozen? ⟨w.heap.size + 2, 0, none⟩ = false := new_loose2 _ _ _ _ _ (by simp)
  have q1 : (((w.alloc (.cells #[.int .i64 k1, .bool n1, .int .i64 m1, .int .i64 e1] 25)).alloc (.cells #[.int .i64 k2, .bool n2, .int .i64 m2, .int .i64 e2] 25)).alloc (.cells #[.int .i64 0, .bool false, .int .i64 0, .int .i64 0] 25)).cell? ⟨w.heap.size + 2, 1, none⟩ = some (.bool false) := new_cell2 _ _ _ _ _ _ (by simp) rfl
  have qf1 : (((w.alloc (.cells #[.int .i64 k1, .bool n1, .int .i64 m1, .int .i64 e1] 25)).alloc (.cells #[.int .i64 k2, .bool n2, .int .i64 m2, .int .i64 e2] 25)).alloc (.cells #[.int .i64 0, .bool false, .int .i64 0, .int .i64 0] 25)).frozen? ⟨w.heap.size + 2, 1, none⟩ = false := new_loose2 _ _ _ _ _ (by simp)
  have q2 : (((w.alloc (.cells #[.int .i64 k1, .bool n1, .int .i64 m1, .int .i64 e1] 25)).alloc (.cells #[.int .i64 k2, .bool n2, .int .i64 m2, .int .i64 e2] 25)).alloc (.cells #[.int .i64 0, .bool false, .int .i64 0, .int .i64 0] 25)).cell? ⟨w.heap.size + 2, 2, none⟩ = some (.int .i64 0) := new_cell2 _ _ _ _ _ _ (by simp) rfl
  have qf2 : (((w.alloc (.cells #[.int .i64 k1, .bool n1, .int .i64 m1, .int .i64 e1] 25)).alloc (.cells #[.int .i64 k2, .bool n2, .int .i64 m2, .int .i64 e2] 25)).alloc (.cells #[.int .i64 0, .bool false, .int .i64 0, .int .i64 0] 25)).frozen? ⟨w.heap.size + 2, 2, none⟩ = false := new_loose2 _ _ _ _ _ (by simp)
  have q3 : (((w.alloc (.cells #[.int .i64 k1, .bool n1, .int .i64 m1, .int .i64 e1] 25)).alloc (.cells #[.int .i64 k2, .bool n2, .int .i64 m2, .int .i64 e2] 25)).alloc (.cells #[.int .i64 0, .bool false, .int .i64 0, .int .i64 0] 25)).cell? ⟨w.heap.size + 2, 3, none⟩ = some (.int .i64 0) := new_cell2 _ _ _ _ _ _ (by simp) rfl
  have qf3 : (((w.alloc (.cells #[.int .i64 k1, .bool n1, .int .i64 m1, .int .i64 e1] 25)).alloc (.cells #[.int .i64 k2, .bool n2, .int .i64 m2, .int .i64 e2] 25)).alloc (.cells #[.int .i64 0, .bool false, .int .i64 0, .int .i64 0] 25)).frozen? ⟨w.heap.size + 2, 3, none⟩ = false := new_loose2 _ _ _ _ _ (by simp)
  have s0 : (((w.alloc (.cells #[.int .i64 k1, .bool n1, .int .i64 m1, .int .i64 e1] 25)).alloc (.cells #[.int .i64 k2, .bool n2, .int .i64 m2, .int .i64 e2] 25)).alloc (.cells #[.int .i64 0, .bool false, .int .i64 0, .int .i64 0] 25)).heap.size = w.heap.size + 3 := by simp
  have K := hide (k0)
  clear k0
  have S0 := hide s0
  clear s0
  go_enter Tryz.func10, Tryz.ntmps10
  go_wp2_with fail
  generalize (((w.alloc (.cells #[.int .i64 k1, .bool n1, .int .i64 m1, .int .i64 e1] 25)).alloc (.cells #[.int .i64 k2, .bool n2, .int .i64 m2, .int .i64 e2] 25)).alloc (.cells #[.int .i64 0, .bool false, .int .i64 0, .int .i64 0] 25)) = W at *
  cases h1 : flok k1 n1 m1 e1
  · refine (flok_impl_k h1 _).mono ?_
    rintro e w1 ⟨rfl, k1⟩
    replace qf0 := k1.loose0 (World.block_lt_of_cell? _ _ q0) qf0
    replace qf1 := k1.loose0 (World.block_lt_of_cell? _ _ q1) qf1
    replace qf2 := k1.loose0 (World.block_lt_of_cell? _ _ q2) qf2
    replace qf3 := k1.loose0 (World.block_lt_of_cell? _ _ q3) qf3
    replace p0 := k1.cell0 p0
    replace p1 := k1.cell0 p1
    replace p2 := k1.cell0 p2
    replace p3 := k1.cell0 p3
    replace t0 := k1.cell0 t0
    replace t1 := k1.cell0 t1
    replace t2 := k1.cell0 t2
    replace t3 := k1.cell0 t3
    replace q0 := k1.cell0 q0
    replace q1 := k1.cell0 q1
    replace q2 := k1.cell0 q2
    replace q3 := k1.cell0 q3
    replace K := hide ((unhide K).trans k1)
    have z2 := k1.size
    clear k1
    have FQ : Hid (Q = ((3, false, 0, 0), 16)) := by
      show _ = _
      have hc : okM k1 n1 m1 e1 k2 n2 m2 e2 mode = false := by unfold okM; rw [h1]; rfl
      rw [← unhide HQ]; unfold faddQ; rw [hc]; rfl
    go_wp2_with fail
    refine (bad_impl _).mono ?_
    rintro e w3 ⟨rfl, k3⟩
    replace qf0 := k3.loose0 (World.block_lt_of_cell? _ _ q0) qf0
    replace qf1 := k3.loose0 (World.block_lt_of_cell? _ _ q1) qf1
    replace qf2 := k3.loose0 (World.block_lt_of_cell? _ _ q2) qf2
    replace qf3 := k3.loose0 (World.block_lt_of_cell? _ _ q3) qf3
    replace p0 := k3.cell0 p0
    replace p1 := k3.cell0 p1
    replace p2 := k3.cell0 p2
    replace p3 := k3.cell0 p3
    replace t0 := k3.cell0 t0
    replace t1 := k3.cell0 t1
    replace t2 := k3.cell0 t2
    replace t3 := k3.cell0 t3
    replace q0 := k3.cell0 q0
    replace q1 := k3.cell0 q1
    replace q2 := k3.cell0 q2
    replace q3 := k3.cell0 q3
    replace K := hide ((unhide K).trans k3)
    have z4 := k3.size
    clear k3
    have KF := hide (((((unhide K).setNew (p := ⟨w.heap.size + 2, 0, none⟩) (by simp) (.int .i64 3)).setNew (p := ⟨w.heap.size + 2, 1, none⟩) (by simp) (.bool false)).setNew (p := ⟨w.heap.size + 2, 2, none⟩) (by simp) (.int .i64 0)).setNew (p := ⟨w.heap.size + 2, 3, none⟩) (by simp) (.int .i64 0))
    clear K
    try go_wp2_with fail
    exact bodyPost_ret (v := .tuple #[.agg #[.int .i64 3, .bool false, .int .i64 0, .int .i64 0], .int .i64 16]) (by simp [results, Tryz.results10, go_sem, q0, q1, q2, q3]) rfl ⟨by rw [unhide FQ], unhide KF⟩
  refine (flok_impl_k h1 _).mono ?_
  rintro e w1 ⟨rfl, k1⟩
  replace qf0 := k1.loose0 (World.block_lt_of_cell? _ _ q0) qf0
  replace qf1 := k1.loose0 (World.block_lt_of_cell? _ _ q1) qf1
  replace qf2 := k1.loose0 (World.block_lt_of_cell? _ _ q2) qf2
  replace qf3 := k1.loose0 (World.block_lt_of_cell? _ _ q3) qf3
  replace p0 := k1.cell0 p0
  replace p1 := k1.cell0 p1
  replace p2 := k1.cell0 p2
  replace p3 := k1.cell0 p3
  replace t0 := k1.cell0 t0
  replace t1 := k1.cell0 t1
  replace t2 := k1.cell0 t2
  replace t3 := k1.cell0 t3
  replace q0 := k1.cell0 q0
  replace q1 := k1.cell0 q1
  replace q2 := k1.cell0 q2
  replace q3 := k1.cell0 q3
  replace K := hide ((unhide K).trans k1)
  have z2 := k1.size
  clear k1
  go_wp2_with fail
  cases h2 : flok k2 n2 m2 e2
  · refine (flok_impl_k h2 _).mono ?_
    rintro e w3 ⟨rfl, k3⟩
    replace qf0 := k3.loose0 (World.block_lt_of_cell? _ _ q0) qf0
    replace qf1 := k3.loose0 (World.block_lt_of_cell? _ _ q1) qf1
    replace qf2 := k3.loose0 (World.block_lt_of_cell? _ _ q2) qf2
    replace qf3 := k3.loose0 (World.block_lt_of_cell? _ _ q3) qf3
    replace p0 := k3.cell0 p0
    replace p1 := k3.cell0 p1
    replace p2 := k3.cell0 p2
    replace p3 := k3.cell0 p3
    replace t0 := k3.cell0 t0
    replace t1 := k3.cell0 t1
    replace t2 := k3.cell0 t2
    replace t3 := k3.cell0 t3
    replace q0 := k3.cell0 q0
    replace q1 := k3.cell0 q1
    replace q2 := k3.cell0 q2
    replace q3 := k3.cell0 q3
    replace K := hide ((unhide K).trans k3)
    have z4 := k3.size
    clear k3
    have FQ : Hid (Q = ((3, false, 0, 0), 16)) := by
      show _ = _
      have hc : okM k1 n1 m1 e1 k2 n2 m2 e2 mode = false := by unfold okM; rw [h2]; simp
      rw [← unhide HQ]; unfold faddQ; rw [hc]; rfl
    go_wp2_with fail
    refine (bad_impl _).mono ?_
    rintro e w5 ⟨rfl, k5⟩
    replace qf0 := k5.loose0 (World.block_lt_of_cell? _ _ q0) qf0
    replace qf1 := k5.loose0 (World.block_lt_of_cell? _ _ q1) qf1
    replace qf2 := k5.loose0 (World.block_lt_of_cell? _ _ q2) qf2
    replace qf3 := k5.loose0 (World.block_lt_of_cell? _ _ q3) qf3
    replace p0 := k5.cell0 p0
    replace p1 := k5.cell0 p1
    replace p2 := k5.cell0 p2
    replace p3 := k5.cell0 p3
    replace t0 := k5.cell0 t0
    replace t1 := k5.cell0 t1
    replace t2 := k5.cell0 t2
    replace t3 := k5.cell0 t3
    replace q0 := k5.cell0 q0
    replace q1 := k5.cell0 q1
    replace q2 := k5.cell0 q2
    replace q3 := k5.cell0 q3
    replace K := hide ((unhide K).trans k5)
    have z6 := k5.size
    clear k5
    have KF := hide (((((unhide K).setNew (p := ⟨w.heap.size + 2, 0, none⟩) (by simp) (.int .i64 3)).setNew (p := ⟨w.heap.size + 2, 1, none⟩) (by simp) (.bool false)).setNew (p := ⟨w.heap.size + 2, 2, none⟩) (by simp) (.int .i64 0)).setNew (p := ⟨w.heap.size + 2, 3, none⟩) (by simp) (.int .i64 0))
    clear K
    try go_wp2_with fail
    exact bodyPost_ret (v := .tuple #[.agg #[.int .i64 3, .bool false, .int .i64 0, .int .i64 0], .int .i64 16]) (by simp [results, Tryz.results10, go_sem, q0, q1, q2, q3]) rfl ⟨by rw [unhide FQ], unhide KF⟩
  refine (flok_impl_k h2 _).mono ?_
  rintro e w3 ⟨rfl, k3⟩
  replace qf0 := k3.loose0 (World.block_lt_of_cell? _ _ q0) qf0
  replace qf1 := k3.loose0 (World.block_lt_of_cell? _ _ q1) qf1
  replace qf2 := k3.loose0 (World.block_lt_of_cell? _ _ q2) qf2
  replace qf3 := k3.loose0 (World.block_lt_of_cell? _ _ q3) qf3
  replace p0 := k3.cell0 p0
  replace p1 := k3.cell0 p1
  replace p2 := k3.cell0 p2
  replace p3 := k3.cell0 p3
  replace t0 := k3.cell0 t0
  replace t1 := k3.cell0 t1
  replace t2 := k3.cell0 t2
  replace t3 := k3.cell0 t3
  replace q0 := k3.cell0 q0
  replace q1 := k3.cell0 q1
  replace q2 := k3.cell0 q2
  replace q3 := k3.cell0 q3
  replace K := hide ((unhide K).trans k3)
  have z4 := k3.size
  clear k3
  go_wp2_with fail
  refine (isMode_impl mode _).mono ?_
  rintro e w5 ⟨rfl, rfl⟩
  cases hm : modeB mode
  · have FQ : Hid (Q = ((3, false, 0, 0), 16)) := by
      show _ = _
      have hc : okM k1 n1 m1 e1 k2 n2 m2 e2 mode = false := by unfold okM; rw [hm]; simp
      rw [← unhide HQ]; unfold faddQ; rw [hc]; rfl
    go_wp2_with fail
    refine (bad_impl _).mono ?_
    rintro e w5 ⟨rfl, k5⟩
    replace qf0 := k5.loose0 (World.block_lt_of_cell? _ _ q0) qf0
    replace qf1 := k5.loose0 (World.block_lt_of_cell? _ _ q1) qf1
    replace qf2 := k5.loose0 (World.block_lt_of_cell? _ _ q2) qf2
    replace qf3 := k5.loose0 (World.block_lt_of_cell? _ _ q3) qf3
    replace p0 := k5.cell0 p0
    replace p1 := k5.cell0 p1
    replace p2 := k5.cell0 p2
    replace p3 := k5.cell0 p3
    replace t0 := k5.cell0 t0
    replace t1 := k5.cell0 t1
    replace t2 := k5.cell0 t2
    replace t3 := k5.cell0 t3
    replace q0 := k5.cell0 q0
    replace q1 := k5.cell0 q1
    replace q2 := k5.cell0 q2
    replace q3 := k5.cell0 q3
    replace K := hide ((unhide K).trans k5)
    have z6 := k5.size
    clear k5
    have KF := hide (((((unhide K).setNew (p := ⟨w.heap.size + 2, 0, none⟩) (by simp) (.int .i64 3)).setNew (p := ⟨w.heap.size + 2, 1, none⟩) (by simp) (.bool false)).setNew (p := ⟨w.heap.size + 2, 2, none⟩) (by simp) (.int .i64 0)).setNew (p := ⟨w.heap.size + 2, 3, none⟩) (by simp) (.int .i64 0))
    clear K
    try go_wp2_with fail
    exact bodyPost_ret (v := .tuple #[.agg #[.int .i64 3, .bool false, .int .i64 0, .int .i64 0], .int .i64 16]) (by simp [results, Tryz.results10, go_sem, q0, q1, q2, q3]) rfl ⟨by rw [unhide FQ], unhide KF⟩
  have hc : okM k1 n1 m1 e1 k2 n2 m2 e2 mode = true := by unfold okM; rw [h1, h2, hm]; rfl
  obtain ⟨-, -, h3, h4⟩ := okM_iff hc
  have hM : addQ k1 n1 m1 e1 k2 n2 m2 e2 mode = Q := by rw [← unhide HQ]; unfold faddQ; rw [hc, if_pos rfl]
  have HM := hide hM
  have H1 := hide h1
  have H2 := hide h2
  clear hc hM hm h1 h2
  go_wp2_with fail
  obtain ⟨I1, hI1⟩ : ∃ y, ivl k1 n1 m1 e1 = y := ⟨_, rfl⟩
  obtain ⟨I2, hI2⟩ : ∃ y, ivl k2 n2 m2 e2 = y := ⟨_, rfl⟩
  have mf1 := fun w => fo_any (unhide H1) w
  have mf2 := fun w => fo_any (unhide H2) w
  have mm := fun (w : World) (T : TabB w) => addI_any (unhide H1) (unhide H2) mode h3 h4 w T
  simp only [hI1] at mf1 mm
  simp only [hI2] at mf2 mm
  simp only [unhide HM] at mm
  replace mf1 := hide mf1
  replace mf2 := hide mf2
  replace mm := hide mm
  clear hI1 hI2
  have n_qf0 := qf0
  have n_q0 := q0
  have n_qf1 := qf1
  have n_q1 := q1
  have n_qf2 := qf2
  have n_q2 := q2
  have n_qf3 := qf3
  have n_q3 := q3
  have kd := (Kept.refl 0 0 w5).drew
  replace qf0 := kd.loose0 (World.block_lt_of_cell? _ _ q0) qf0
  replace qf1 := kd.loose0 (World.block_lt_of_cell? _ _ q1) qf1
  replace qf2 := kd.loose0 (World.block_lt_of_cell? _ _ q2) qf2
  replace qf3 := kd.loose0 (World.block_lt_of_cell? _ _ q3) qf3
  replace p0 := kd.cell0 p0
  replace p1 := kd.cell0 p1
  replace p2 := kd.cell0 p2
  replace p3 := kd.cell0 p3
  replace t0 := kd.cell0 t0
  replace t1 := kd.cell0 t1
  replace t2 := kd.cell0 t2
  replace t3 := kd.cell0 t3
  replace q0 := kd.cell0 q0
  replace q1 := kd.cell0 q1
  replace q2 := kd.cell0 q2
  replace q3 := kd.cell0 q3
  replace K := hide ((unhide K).trans kd)
  have z5 := kd.size
  clear kd
  refine wp_region_held_drew (S := (fun w' => w'.cell? ⟨w.heap.size, 0, none⟩ = some (.int .i64 k1) ∧ w'.cell? ⟨w.heap.size, 1, none⟩ = some (.bool n1) ∧ w'.cell? ⟨w.heap.size, 2, none⟩ = some (.int .i64 m1) ∧ w'.cell? ⟨w.heap.size, 3, none⟩ = some (.int .i64 e1) ∧ w'.cell? ⟨w.heap.size + 1, 0, none⟩ = some (.int .i64 k2) ∧ w'.cell? ⟨w.heap.size + 1, 1, none⟩ = some (.bool n2) ∧ w'.cell? ⟨w.heap.size + 1, 2, none⟩ = some (.int .i64 m2) ∧ w'.cell? ⟨w.heap.size + 1, 3, none⟩ = some (.int .i64 e2))) (by kernel_rfl) ?_ (fun hHeld => ?_)
  · exact ⟨p0, p1, p2, p3, t0, t1, t2, t3⟩
  refine wpAnyH_take (i := 0) (oi := _) (v := .agg #[.int .i64 k1, .bool n1, .int .i64 m1, .int .i64 e1]) rfl (by kernel_rfl) (by kernel_rfl) (by kernel_rfl) (fun _ _ _ h => h) (Or.inl ⟨by rfl, ?_⟩) hHeld ?_
  · intro wq hSw
    try dsimp only at hSw
    go_simp
  try simp only [Act.put, List.getElem_toArray, List.getElem_cons_succ, List.getElem_cons_zero, List.setIfInBounds_toArray, List.set_cons_zero, List.set_cons_succ]
  refine wpAnyH_take (i := 2) (oi := _) (v := .agg #[.int .i64 k2, .bool n2, .int .i64 m2, .int .i64 e2]) rfl (by kernel_rfl) (by kernel_rfl) (by kernel_rfl) (fun _ _ _ h => h) (Or.inl ⟨by rfl, ?_⟩) hHeld ?_
  · intro wq hSw
    try dsimp only at hSw
    go_simp
  try simp only [Act.put, List.getElem_toArray, List.getElem_cons_succ, List.getElem_cons_zero, List.setIfInBounds_toArray, List.set_cons_zero, List.set_cons_succ]
  refine wpAnyH_take (i := 4) (oi := _) (v := .int .i64 mode) rfl (by kernel_rfl) (by kernel_rfl) (by kernel_rfl) (fun _ _ _ h => h) (Or.inl ⟨by rfl, ?_⟩) hHeld ?_
  · intro wq hSw
    try dsimp only at hSw
    go_simp
  try simp only [Act.put, List.getElem_toArray, List.getElem_cons_succ, List.getElem_cons_zero, List.setIfInBounds_toArray, List.set_cons_zero, List.set_cons_succ]
  refine wpAnyH_ready (rs := [1]) (by kernel_rfl) (by simp) ?_
  refine AllReadyH.cons rfl (fun KK hK => ?_) AllReadyH.nil
  simp only [List.getElem_toArray, List.getElem_cons_succ, List.getElem_cons_zero]
  rw [if_pos (by rfl)]
  refine wps1 47 (.tmp 24) _ rfl in_impl_floatOf_t (.agg #[.int .i64 k1, .bool n1, .int .i64 m1, .int .i64 e1]) rfl (unhide mf1 _) ?_
  rintro e w6 ⟨rfl, k6⟩
  refine ⟨_, rfl, ?_⟩
  replace qf0 := k6.loose0 (World.block_lt_of_cell? _ _ q0) qf0
  replace qf1 := k6.loose0 (World.block_lt_of_cell? _ _ q1) qf1
  replace qf2 := k6.loose0 (World.block_lt_of_cell? _ _ q2) qf2
  replace qf3 := k6.loose0 (World.block_lt_of_cell? _ _ q3) qf3
  replace p0 := k6.cell0 p0
  replace p1 := k6.cell0 p1
  replace p2 := k6.cell0 p2
  replace p3 := k6.cell0 p3
  replace t0 := k6.cell0 t0
  replace t1 := k6.cell0 t1
  replace t2 := k6.cell0 t2
  replace t3 := k6.cell0 t3
  replace q0 := k6.cell0 q0
  replace q1 := k6.cell0 q1
  replace q2 := k6.cell0 q2
  replace q3 := k6.cell0 q3
  replace K := hide ((unhide K).trans k6)
  have z7 := k6.size
  clear k6
  clear hHeld
  refine hK.out _ _ ?_ (fun hHeld => ?_)
  · exact ⟨p0, p1, p2, p3, t0, t1, t2, t3⟩
  clear hK KK
  try simp only [Act.put, List.getElem_toArray, List.getElem_cons_succ, List.getElem_cons_zero, List.setIfInBounds_toArray, List.set_cons_zero, List.set_cons_succ]
  refine wpAnyH_ready (rs := [3]) (by kernel_rfl) (by simp) ?_
  refine AllReadyH.cons rfl (fun KK hK => ?_) AllReadyH.nil
  simp only [List.getElem_toArray, List.getElem_cons_succ, List.getElem_cons_zero]
  rw [if_pos (by rfl)]
  refine wps1 47 (.tmp 26) _ rfl in_impl_floatOf_t (.agg #[.int .i64 k2, .bool n2, .int .i64 m2, .int .i64 e2]) rfl (unhide mf2 _) ?_
  rintro e w8 ⟨rfl, k8⟩
  refine ⟨_, rfl, ?_⟩
  replace qf0 := k8.loose0 (World.block_lt_of_cell? _ _ q0) qf0
  replace qf1 := k8.loose0 (World.block_lt_of_cell? _ _ q1) qf1
  replace qf2 := k8.loose0 (World.block_lt_of_cell? _ _ q2) qf2
  replace qf3 := k8.loose0 (World.block_lt_of_cell? _ _ q3) qf3
  replace p0 := k8.cell0 p0
  replace p1 := k8.cell0 p1
  replace p2 := k8.cell0 p2
  replace p3 := k8.cell0 p3
  replace t0 := k8.cell0 t0
  replace t1 := k8.cell0 t1
  replace t2 := k8.cell0 t2
  replace t3 := k8.cell0 t3
  replace q0 := k8.cell0 q0
  replace q1 := k8.cell0 q1
  replace q2 := k8.cell0 q2
  replace q3 := k8.cell0 q3
  replace K := hide ((unhide K).trans k8)
  have z9 := k8.size
  clear k8
  clear hHeld
  refine hK.out _ _ ?_ (fun hHeld => ?_)
  · exact ⟨p0, p1, p2, p3, t0, t1, t2, t3⟩
  clear hK KK
  try simp only [Act.put, List.getElem_toArray, List.getElem_cons_succ, List.getElem_cons_zero, List.setIfInBounds_toArray, List.set_cons_zero, List.set_cons_succ]
  refine wpAnyH_ready (rs := [5]) (by kernel_rfl) (by simp) ?_
  refine AllReadyH.cons rfl (fun KK hK => ?_) AllReadyH.nil
  simp only [List.getElem_toArray, List.getElem_cons_succ, List.getElem_cons_zero]
  rw [if_pos (by rfl)]
  refine wps3 46 (.tmp 25) (.tmp 27) (.tmp 28) _ rfl in_impl_addFloats_t I1 I2 (.int .i64 mode) rfl rfl rfl (unhide mm _ (T.kept (unhide K))) ?_
  rintro e w10 ⟨rfl, k10⟩
  refine ⟨_, rfl, ?_⟩
  replace qf0 := k10.loose0 (World.block_lt_of_cell? _ _ q0) qf0
  replace qf1 := k10.loose0 (World.block_lt_of_cell? _ _ q1) qf1
  replace qf2 := k10.loose0 (World.block_lt_of_cell? _ _ q2) qf2
  replace qf3 := k10.loose0 (World.block_lt_of_cell? _ _ q3) qf3
  replace p0 := k10.cell0 p0
  replace p1 := k10.cell0 p1
  replace p2 := k10.cell0 p2
  replace p3 := k10.cell0 p3
  replace t0 := k10.cell0 t0
  replace t1 := k10.cell0 t1
  replace t2 := k10.cell0 t2
  replace t3 := k10.cell0 t3
  replace q0 := k10.cell0 q0
  replace q1 := k10.cell0 q1
  replace q2 := k10.cell0 q2
  replace q3 := k10.cell0 q3
  replace K := hide ((unhide K).trans k10)
  have z11 := k10.size
  clear k10
  clear hHeld
  refine hK.out _ _ ?_ (fun hHeld => ?_)
  · exact ⟨p0, p1, p2, p3, t0, t1, t2, t3⟩
  clear hK KK
  try simp only [Act.put, List.getElem_toArray, List.getElem_cons_succ, List.getElem_cons_zero, List.setIfInBounds_toArray, List.set_cons_zero, List.set_cons_succ]
  refine wpAnyH_take (i := 6) (oi := _) (v := .agg #[.int .i64 Q.1.1, .bool Q.1.2.1, .int .i64 Q.1.2.2.1, .int .i64 Q.1.2.2.2]) rfl (by kernel_rfl) (by kernel_rfl) (by kernel_rfl) (fun _ _ _ h => h) (Or.inl ⟨by rfl, ?_⟩) hHeld ?_
  · intro wq hSw
    try dsimp only at hSw
    go_simp
  try simp only [Act.put, List.getElem_toArray, List.getElem_cons_succ, List.getElem_cons_zero, List.setIfInBounds_toArray, List.set_cons_zero, List.set_cons_succ]
  refine wpAnyH_take (i := 7) (oi := _) (v := .int .i64 Q.2) rfl (by kernel_rfl) (by kernel_rfl) (by kernel_rfl) (fun _ _ _ h => h) (Or.inl ⟨by rfl, ?_⟩) hHeld ?_
  · intro wq hSw
    try dsimp only at hSw
    go_simp
  try simp only [Act.put, List.getElem_toArray, List.getElem_cons_succ, List.getElem_cons_zero, List.setIfInBounds_toArray, List.set_cons_zero, List.set_cons_succ]
  refine wpAnyH_ready (rs := [8]) (by kernel_rfl) (by simp) ?_
  refine AllReadyH.cons rfl (fun KK hK => ?_) AllReadyH.nil
  simp only [List.getElem_toArray, List.getElem_cons_succ, List.getElem_cons_zero]
  rw [if_pos (by rfl)]
  go_simp
  clear hHeld
  refine hK.out _ _ ?_ (fun hHeld => ?_)
  · exact ⟨(cell_aside _ (by have := unhide S0; dsimp only; omega) (cell_aside _ (by have := unhide S0; dsimp only; omega) (cell_aside _ (by have := unhide S0; dsimp only; omega) (cell_aside _ (by have := unhide S0; dsimp only; omega) p0)))), (cell_aside _ (by have := unhide S0; dsimp only; omega) (cell_aside _ (by have := unhide S0; dsimp only; omega) (cell_aside _ (by have := unhide S0; dsimp only; omega) (cell_aside _ (by have := unhide S0; dsimp only; omega) p1)))), (cell_aside _ (by have := unhide S0; dsimp only; omega) (cell_aside _ (by have := unhide S0; dsimp only; omega) (cell_aside _ (by have := unhide S0; dsimp only; omega) (cell_aside _ (by have := unhide S0; dsimp only; omega) p2)))), (cell_aside _ (by have := unhide S0; dsimp only; omega) (cell_aside _ (by have := unhide S0; dsimp only; omega) (cell_aside _ (by have := unhide S0; dsimp only; omega) (cell_aside _ (by have := unhide S0; dsimp only; omega) p3)))), (cell_aside _ (by have := unhide S0; dsimp only; omega) (cell_aside _ (by have := unhide S0; dsimp only; omega) (cell_aside _ (by have := unhide S0; dsimp only; omega) (cell_aside _ (by have := unhide S0; dsimp only; omega) t0)))), (cell_aside _ (by have := unhide S0; dsimp only; omega) (cell_aside _ (by have := unhide S0; dsimp only; omega) (cell_aside _ (by have := unhide S0; dsimp only; omega) (cell_aside _ (by have := unhide S0; dsimp only; omega) t1)))), (cell_aside _ (by have := unhide S0; dsimp only; omega) (cell_aside _ (by have := unhide S0; dsimp only; omega) (cell_aside _ (by have := unhide S0; dsimp only; omega) (cell_aside _ (by have := unhide S0; dsimp only; omega) t2)))), (cell_aside _ (by have := unhide S0; dsimp only; omega) (cell_aside _ (by have := unhide S0; dsimp only; omega) (cell_aside _ (by have := unhide S0; dsimp only; omega) (cell_aside _ (by have := unhide S0; dsimp only; omega) t3))))⟩
  clear hK KK
  try simp only [Act.put, List.getElem_toArray, List.getElem_cons_succ, List.getElem_cons_zero, List.setIfInBounds_toArray, List.set_cons_zero, List.set_cons_succ]
  refine wpAnyH_take (i := 9) (oi := _) (v := .int .i64 Q.2) rfl (by kernel_rfl) (by kernel_rfl) (by kernel_rfl) (fun _ _ _ h => h) (Or.inl ⟨by rfl, ?_⟩) hHeld ?_
  · intro wq hSw
    try dsimp only at hSw
    go_simp
  try simp only [Act.put, List.getElem_toArray, List.getElem_cons_succ, List.getElem_cons_zero, List.setIfInBounds_toArray, List.set_cons_zero, List.set_cons_succ]
  refine wpAnyH_done (by kernel_rfl) ?_ _
  clear hHeld
  have KF := hide (((((unhide K).setNew (p := ⟨w.heap.size + 2, 0, none⟩) (by simp) (.int .i64 Q.1.1)).setNew (p := ⟨w.heap.size + 2, 1, none⟩) (by simp) (.bool Q.1.2.1)).setNew (p := ⟨w.heap.size + 2, 2, none⟩) (by simp) (.int .i64 Q.1.2.2.1)).setNew (p := ⟨w.heap.size + 2, 3, none⟩) (by simp) (.int .i64 Q.1.2.2.2))
  clear K
  try go_wp2_with fail
  exact bodyPost_ret (v := .tuple #[.agg #[.int .i64 Q.1.1, .bool Q.1.2.1, .int .i64 Q.1.2.2.1, .int .i64 Q.1.2.2.2], .int .i64 Q.2]) (by simp [results, Tryz.results10, go_sem, q0, q1, q2, q3]) rfl ⟨rfl, unhide KF⟩

theorem in_impl_multiplyFloats_t : ∀ (w : World) (args : Array Value), (callFunc 48 args).run Tryz.prog w = .ok (.enter 48 args) w := enters Tryz.func48 (by decide) (fun h => by cases h)

def fmulQ (k1 : Int) (n1 : Bool) (m1 e1 k2 : Int) (n2 : Bool) (m2 e2 mode : Int) : (Int × Bool × Int × Int) × Int := if okM k1 n1 m1 e1 k2 n2 m2 e2 mode = true then mulQ k1 n1 m1 e1 k2 n2 m2 e2 mode else ((3, false, 0, 0), 16)

theorem mulI_any {k1 : Int} {n1 : Bool} {m1 e1 k2 : Int} {n2 : Bool} {m2 e2 : Int} (h1 : flok k1 n1 m1 e1 = true) (h2 : flok k2 n2 m2 e2 = true) (mode : Int) (hm0 : 0 ≤ mode) (hm4 : mode ≤ 4) (w : World) (T : TabB w) :
    Calls Tryz.prog 48 #[ivl k1 n1 m1 e1, ivl k2 n2 m2 e2, .int .i64 mode] w fun e' w' => e' = .returned (.tuple #[flq (mulQ k1 n1 m1 e1 k2 n2 m2 e2 mode).1, .int .i64 (mulQ k1 n1 m1 e1 k2 n2 m2 e2 mode).2]) ∧ Kept 0 0 w w' := by
  rcases flok_ways h1 with ⟨rfl, a11, a21, a31, a41, -⟩ | ⟨rfl, rfl, rfl⟩ | ⟨rfl, rfl, rfl⟩ | ⟨rfl, rfl, rfl, rfl⟩
  · rcases flok_ways h2 with ⟨rfl, a12, a22, a32, a42, -⟩ | ⟨rfl, rfl, rfl⟩ | ⟨rfl, rfl, rfl⟩ | ⟨rfl, rfl, rfl, rfl⟩
    · exact mulI_num_num n1 m1 e1 n2 m2 e2 a11 a21 a31 a41 a12 a22 a32 a42 mode hm0 hm4 w T
    · exact mulI_num_nought n1 m1 e1 n2 a11 a21 a31 a41 mode hm0 hm4 w T
    · exact mulI_num_inf n1 m1 e1 n2 a11 a21 a31 a41 mode hm0 hm4 w
    · exact mulI_num_nan n1 m1 e1 a11 a21 a31 a41 mode hm0 hm4 w
  · rcases flok_ways h2 with ⟨rfl, a12, a22, a32, a42, -⟩ | ⟨rfl, rfl, rfl⟩ | ⟨rfl, rfl, rfl⟩ | ⟨rfl, rfl, rfl, rfl⟩
    · exact mulI_nought_num n1 n2 m2 e2 a12 a22 a32 a42 mode hm0 hm4 w T
    · exact mulI_nought_nought n1 n2 mode hm0 hm4 w T
    · exact mulI_nought_inf n1 n2 mode hm0 hm4 w
    · exact mulI_nought_nan n1 mode hm0 hm4 w
  · rcases flok_ways h2 with ⟨rfl, a12, a22, a32, a42, -⟩ | ⟨rfl, rfl, rfl⟩ | ⟨rfl, rfl, rfl⟩ | ⟨rfl, rfl, rfl, rfl⟩
    · exact mulI_inf_num n1 n2 m2 e2 a12 a22 a32 a42 mode hm0 hm4 w
    · exact mulI_inf_nought n1 n2 mode hm0 hm4 w
    · exact mulI_inf_inf n1 n2 mode hm0 hm4 w
    · exact mulI_inf_nan n1 mode hm0 hm4 w
  · rcases flok_ways h2 with ⟨rfl, a12, a22, a32, a42, -⟩ | ⟨rfl, rfl, rfl⟩ | ⟨rfl, rfl, rfl⟩ | ⟨rfl, rfl, rfl, rfl⟩
    · exact mulI_nan_num n2 m2 e2 a12 a22 a32 a42 mode hm0 hm4 w
    · exact mulI_nan_nought n2 mode hm0 hm4 w
    · exact mulI_nan_inf n2 mode hm0 hm4 w
    · exact mulI_nan_nan mode hm0 hm4 w

set_option maxHeartbeats 2000000 in
theorem flmul_impl (k1 : Int) (n1 : Bool) (m1 e1 k2 : Int) (n2 : Bool) (m2 e2 mode : Int) (w : World) (T : TabB w) :
    Calls Tryz.prog 11 #[flv k1 n1 m1 e1, flv k2 n2 m2 e2, .int .i64 mode] w fun e' w' => e' = .returned (.tuple #[flq (fmulQ k1 n1 m1 e1 k2 n2 m2 e2 mode).1, .int .i64 (fmulQ k1 n1 m1 e1 k2 n2 m2 e2 mode).2]) ∧ Kept 0 0 w w' := by
  obtain ⟨Q, hQ⟩ : ∃ q, fmulQ k1 n1 m1 e1 k2 n2 m2 e2 mode = q := ⟨_, rfl⟩
  rw [hQ]
  have HQ := hide hQ
  clear hQ
  have k0 : Kept 0 0 w (((w.alloc (.cells #[.int .i64 k1, .bool n1, .int .i64 m1, .int .i64 e1] 25)).alloc (.cells #[.int .i64 k2, .bool n2, .int .i64 m2, .int .i64 e2] 25)).alloc (.cells #[.int .i64 0, .bool false, .int .i64 0, .int .i64 0] 25)) := ((((Kept.refl 0 0 w).alloc (.cells #[.int .i64 k1, .bool n1, .int .i64 m1, .int .i64 e1] 25)).alloc (.cells #[.int .i64 k2, .bool n2, .int .i64 m2, .int .i64 e2] 25)).alloc (.cells #[.int .i64 0, .bool false, .int .i64 0, .int .i64 0] 25))
  have p0 : (((w.alloc (.cells #[.int .i64 k1, .bool n1, .int .i64 m1, .int .i64 e1] 25)).alloc (.cells #[.int .i64 k2, .bool n2, .int .i64 m2, .int .i64 e2] 25)).alloc (.cells #[.int .i64 0, .bool false, .int .i64 0, .int .i64 0] 25)).cell? ⟨w.heap.size, 0, none⟩ = some (.int .i64 k1) := old_cell _ (old_cell _ (new_cell2 _ _ _ _ _ _ (by simp) rfl))
  have p1 : (((w.alloc (.cells #[.int .i64 k1, .bool n1, .int .i64 m1, .int .i64 e1] 25)).alloc (.cells #[.int .i64 k2, .bool n2, .int .i64 m2, .int .i64 e2] 25)).alloc (.cells #[.int .i64 0, .bool false, .int .i64 0, .int .i64 0] 25)).cell? ⟨w.heap.size, 1, none⟩ = some (.bool n1) := old_cell _ (old_cell _ (new_cell2 _ _ _ _ _ _ (by simp) rfl))
  have p2 : (((w.alloc (.cells #[.int .i64 k1, .bool n1, .int .i64 m1, .int .i64 e1] 25)).alloc (.cells #[.int .i64 k2, .bool n2, .int .i64 m2, .int .i64 e2] 25)).alloc (.cells #[.int .i64 0, .bool false, .int .i64 0, .int .i64 0] 25)).cell? ⟨w.heap.size, 2, none⟩ = some (.int .i64 m1) := old_cell _ (old_cell _ (new_cell2 _ _ _ _ _ _ (by simp) rfl))
  have p3 : (((w.alloc (.cells #[.int .i64 k1, .bool n1, .int .i64 m1, .int .i64 e1] 25)).alloc (.cells #[.int .i64 k2, .bool n2, .int .i64 m2, .int .i64 e2] 25)).alloc (.cells #[.int .i64 0, .bool false, .int .i64 0, .int .i64 0] 25)).cell? ⟨w.heap.size, 3, none⟩ = some (.int .i64 e1) := old_cell _ (old_cell _ (new_cell2 _ _ _ _ _ _ (by simp) rfl))
  have t0 : (((w.alloc (.cells #[.int .i64 k1, .bool n1, .int .i64 m1, .int .i64 e1] 25)).alloc (.cells #[.int .i64 k2, .bool n2, .int .i64 m2, .int .i64 e2] 25)).alloc (.cells #[.int .i64 0, .bool false, .int .i64 0, .int .i64 0] 25)).cell? ⟨w.heap.size + 1, 0, none⟩ = some (.int .i64 k2) := old_cell _ (new_cell2 _ _ _ _ _ _ (by simp) rfl)
  have t1 : (((w.alloc (.cells #[.int .i64 k1, .bool n1, .int .i64 m1, .int .i64 e1] 25)).alloc (.cells #[.int .i64 k2, .bool n2, .int .i64 m2, .int .i64 e2] 25)).alloc (.cells #[.int .i64 0, .bool false, .int .i64 0, .int .i64 0] 25)).cell? ⟨w.heap.size + 1, 1, none⟩ = some (.bool n2) := old_cell _ (new_cell2 _ _ _ _ _ _ (by simp) rfl)
  have t2 : (((w.alloc (.cells #[.int .i64 k1, .bool n1, .int .i64 m1, .int .i64 e1] 25)).alloc (.cells #[.int .i64 k2, .bool n2, .int .i64 m2, .int .i64 e2] 25)).alloc (.cells #[.int .i64 0, .bool false, .int .i64 0, .int .i64 0] 25)).cell? ⟨w.heap.size + 1, 2, none⟩ = some (.int .i64 m2) := old_cell _ (new_cell2 _ _ _ _ _ _ (by simp) rfl)
  have t3 : (((w.alloc (.cells #[.int .i64 k1, .bool n1, .int .i64 m1, .int .i64 e1] 25)).alloc (.cells #[.int .i64 k2, .bool n2, .int .i64 m2, .int .i64 e2] 25)).alloc (.cells #[.int .i64 0, .bool false, .int .i64 0, .int .i64 0] 25)).cell? ⟨w.heap.size + 1, 3, none⟩ = some (.int .i64 e2) := old_cell _ (new_cell2 _ _ _ _ _ _ (by simp) rfl)
  have q0 : (((w.alloc (.cells #[.int .i64 k1, .bool n1, .int .i64 m1, .int .i64 e1] 25)).alloc (.cells #[.int .i64 k2, .bool n2, .int .i64 m2, .int .i64 e2] 25)).alloc (.cells #[.int .i64 0, .bool false, .int .i64 0, .int .i64 0] 25)).cell? ⟨w.heap.size + 2, 0, none⟩ = some (.int .i64 0) := new_cell2 _ _ _ _ _ _ (by simp) rfl
  have qf0 : (((w.alloc (.cells #[.int .i64 k1, .bool n1, .int .i64 m1, .int .i64 e1] 25)).alloc (.cells #[.int .i64 k2, .bool n2, .int .i64 m2, .int .i64 e2] 25)).alloc (.cells #[.int .i64 0, .bool false, .int .i64 0, .int .i64 0] 25)).frozen? ⟨w.heap.size + 2, 0, none⟩ = false := new_loose2 _ _ _ _ _ (by simp)
  have q1 : (((w.alloc (.cells #[.int .i64 k1, .bool n1, .int .i64 m1, .int .i64 e1] 25)).alloc (.cells #[.int .i64 k2, .bool n2, .int .i64 m2, .int .i64 e2] 25)).alloc (.cells #[.int .i64 0, .bool false, .int .i64 0, .int .i64 0] 25)).cell? ⟨w.heap.size + 2, 1, none⟩ = some (.bool false) := new_cell2 _ _ _ _ _ _ (by simp) rfl
  have qf1 : (((w.alloc (.cells #[.int .i64 k1, .bool n1, .int .i64 m1, .int .i64 e1] 25)).alloc (.cells #[.int .i64 k2, .bool n2, .int .i64 m2, .int .i64 e2] 25)).alloc (.cells #[.int .i64 0, .bool false, .int .i64 0, .int .i64 0] 25)).frozen? ⟨w.heap.size + 2, 1, none⟩ = false := new_loose2 _ _ _ _ _ (by simp)
  have q2 : (((w.alloc (.cells #[.int .i64 k1, .bool n1, .int .i64 m1, .int .i64 e1] 25)).alloc (.cells #[.int .i64 k2, .bool n2, .int .i64 m2, .int .i64 e2] 25)).alloc (.cells #[.int .i64 0, .bool false, .int .i64 0, .int .i64 0] 25)).cell? ⟨w.heap.size + 2, 2, none⟩ = some (.int .i64 0) := new_cell2 _ _ _ _ _ _ (by simp) rfl
  have qf2 : (((w.alloc (.cells #[.int .i64 k1, .bool n1, .int .i64 m1, .int .i64 e1] 25)).alloc (.cells #[.int .i64 k2, .bool n2, .int .i64 m2, .int .i64 e2] 25)).alloc (.cells #[.int .i64 0, .bool false, .int .i64 0, .int .i64 0] 25)).frozen? ⟨w.heap.size + 2, 2, none⟩ = false := new_loose2 _ _ _ _ _ (by simp)
  have q3 : (((w.alloc (.cells #[.int .i64 k1, .bool n1, .int .i64 m1, .int .i64 e1] 25)).alloc (.cells #[.int .i64 k2, .bool n2, .int .i64 m2, .int .i64 e2] 25)).alloc (.cells #[.int .i64 0, .bool false, .int .i64 0, .int .i64 0] 25)).cell? ⟨w.heap.size + 2, 3, none⟩ = some (.int .i64 0) := new_cell2 _ _ _ _ _ _ (by simp) rfl
  have qf3 : (((w.alloc (.cells #[.int .i64 k1, .bool n1, .int .i64 m1, .int .i64 e1] 25)).alloc (.cells #[.int .i64 k2, .bool n2, .int .i64 m2, .int .i64 e2] 25)).alloc (.cells #[.int .i64 0, .bool false, .int .i64 0, .int .i64 0] 25)).frozen? ⟨w.heap.size + 2, 3, none⟩ = false := new_loose2 _ _ _ _ _ (by simp)
  have s0 : (((w.alloc (.cells #[.int .i64 k1, .bool n1, .int .i64 m1, .int .i64 e1] 25)).alloc (.cells #[.int .i64 k2, .bool n2, .int .i64 m2, .int .i64 e2] 25)).alloc (.cells #[.int .i64 0, .bool false, .int .i64 0, .int .i64 0] 25)).heap.size = w.heap.size + 3 := by simp
  have K := hide (k0)
  clear k0
  have S0 := hide s0
  clear s0
  go_enter Tryz.func11, Tryz.ntmps11
  go_wp2_with fail
  generalize (((w.alloc (.cells #[.int .i64 k1, .bool n1, .int .i64 m1, .int .i64 e1] 25)).alloc (.cells #[.int .i64 k2, .bool n2, .int .i64 m2, .int .i64 e2] 25)).alloc (.cells #[.int .i64 0, .bool false, .int .i64 0, .int .i64 0] 25)) = W at *
  cases h1 : flok k1 n1 m1 e1
  · refine (flok_impl_k h1 _).mono ?_
    rintro e w1 ⟨rfl, k1⟩
    replace qf0 := k1.loose0 (World.block_lt_of_cell? _ _ q0) qf0
    replace qf1 := k1.loose0 (World.block_lt_of_cell? _ _ q1) qf1
    replace qf2 := k1.loose0 (World.block_lt_of_cell? _ _ q2) qf2
    replace qf3 := k1.loose0 (World.block_lt_of_cell? _ _ q3) qf3
    replace p0 := k1.cell0 p0
    replace p1 := k1.cell0 p1
    replace p2 := k1.cell0 p2
    replace p3 := k1.cell0 p3
    replace t0 := k1.cell0 t0
    replace t1 := k1.cell0 t1
    replace t2 := k1.cell0 t2
    replace t3 := k1.cell0 t3
    replace q0 := k1.cell0 q0
    replace q1 := k1.cell0 q1
    replace q2 := k1.cell0 q2
    replace q3 := k1.cell0 q3
    replace K := hide ((unhide K).trans k1)
    have z2 := k1.size
    clear k1
    have FQ : Hid (Q = ((3, false, 0, 0), 16)) := by
      show _ = _
      have hc : okM k1 n1 m1 e1 k2 n2 m2 e2 mode = false := by unfold okM; rw [h1]; rfl
      rw [← unhide HQ]; unfold fmulQ; rw [hc]; rfl
    go_wp2_with fail
    refine (bad_impl _).mono ?_
    rintro e w3 ⟨rfl, k3⟩
    replace qf0 := k3.loose0 (World.block_lt_of_cell? _ _ q0) qf0
    replace qf1 := k3.loose0 (World.block_lt_of_cell? _ _ q1) qf1
    replace qf2 := k3.loose0 (World.block_lt_of_cell? _ _ q2) qf2
    replace qf3 := k3.loose0 (World.block_lt_of_cell? _ _ q3) qf3
    replace p0 := k3.cell0 p0
    replace p1 := k3.cell0 p1
    replace p2 := k3.cell0 p2
    replace p3 := k3.cell0 p3
    replace t0 := k3.cell0 t0
    replace t1 := k3.cell0 t1
    replace t2 := k3.cell0 t2
    replace t3 := k3.cell0 t3
    replace q0 := k3.cell0 q0
    replace q1 := k3.cell0 q1
    replace q2 := k3.cell0 q2
    replace q3 := k3.cell0 q3
    replace K := hide ((unhide K).trans k3)
    have z4 := k3.size
    clear k3
    have KF := hide (((((unhide K).setNew (p := ⟨w.heap.size + 2, 0, none⟩) (by simp) (.int .i64 3)).setNew (p := ⟨w.heap.size + 2, 1, none⟩) (by simp) (.bool false)).setNew (p := ⟨w.heap.size + 2, 2, none⟩) (by simp) (.int .i64 0)).setNew (p := ⟨w.heap.size + 2, 3, none⟩) (by simp) (.int .i64 0))
    clear K
    try go_wp2_with fail
    exact bodyPost_ret (v := .tuple #[.agg #[.int .i64 3, .bool false, .int .i64 0, .int .i64 0], .int .i64 16]) (by simp [results, Tryz.results11, go_sem, q0, q1, q2, q3]) rfl ⟨by rw [unhide FQ], unhide KF⟩
  refine (flok_impl_k h1 _).mono ?_
  rintro e w1 ⟨rfl, k1⟩
  replace qf0 := k1.loose0 (World.block_lt_of_cell? _ _ q0) qf0
  replace qf1 := k1.loose0 (World.block_lt_of_cell? _ _ q1) qf1
  replace qf2 := k1.loose0 (World.block_lt_of_cell? _ _ q2) qf2
  replace qf3 := k1.loose0 (World.block_lt_of_cell? _ _ q3) qf3
  replace p0 := k1.cell0 p0
  replace p1 := k1.cell0 p1
  replace p2 := k1.cell0 p2
  replace p3 := k1.cell0 p3
  replace t0 := k1.cell0 t0
  replace t1 := k1.cell0 t1
  replace t2 := k1.cell0 t2
  replace t3 := k1.cell0 t3
  replace q0 := k1.cell0 q0
  replace q1 := k1.cell0 q1
  replace q2 := k1.cell0 q2
  replace q3 := k1.cell0 q3
  replace K := hide ((unhide K).trans k1)
  have z2 := k1.size
  clear k1
  go_wp2_with fail
  cases h2 : flok k2 n2 m2 e2
  · refine (flok_impl_k h2 _).mono ?_
    rintro e w3 ⟨rfl, k3⟩
    replace qf0 := k3.loose0 (World.block_lt_of_cell? _ _ q0) qf0
    replace qf1 := k3.loose0 (World.block_lt_of_cell? _ _ q1) qf1
    replace qf2 := k3.loose0 (World.block_lt_of_cell? _ _ q2) qf2
    replace qf3 := k3.loose0 (World.block_lt_of_cell? _ _ q3) qf3
    replace p0 := k3.cell0 p0
    replace p1 := k3.cell0 p1
    replace p2 := k3.cell0 p2
    replace p3 := k3.cell0 p3
    replace t0 := k3.cell0 t0
    replace t1 := k3.cell0 t1
    replace t2 := k3.cell0 t2
    replace t3 := k3.cell0 t3
    replace q0 := k3.cell0 q0
    replace q1 := k3.cell0 q1
    replace q2 := k3.cell0 q2
    replace q3 := k3.cell0 q3
    replace K := hide ((unhide K).trans k3)
    have z4 := k3.size
    clear k3
    have FQ : Hid (Q = ((3, false, 0, 0), 16)) := by
      show _ = _
      have hc : okM k1 n1 m1 e1 k2 n2 m2 e2 mode = false := by unfold okM; rw [h2]; simp
      rw [← unhide HQ]; unfold fmulQ; rw [hc]; rfl
    go_wp2_with fail
    refine (bad_impl _).mono ?_
    rintro e w5 ⟨rfl, k5⟩
    replace qf0 := k5.loose0 (World.block_lt_of_cell? _ _ q0) qf0
    replace qf1 := k5.loose0 (World.block_lt_of_cell? _ _ q1) qf1
    replace qf2 := k5.loose0 (World.block_lt_of_cell? _ _ q2) qf2
    replace qf3 := k5.loose0 (World.block_lt_of_cell? _ _ q3) qf3
    replace p0 := k5.cell0 p0
    replace p1 := k5.cell0 p1
    replace p2 := k5.cell0 p2
    replace p3 := k5.cell0 p3
    replace t0 := k5.cell0 t0
    replace t1 := k5.cell0 t1
    replace t2 := k5.cell0 t2
    replace t3 := k5.cell0 t3
    replace q0 := k5.cell0 q0
    replace q1 := k5.cell0 q1
    replace q2 := k5.cell0 q2
    replace q3 := k5.cell0 q3
    replace K := hide ((unhide K).trans k5)
    have z6 := k5.size
    clear k5
    have KF := hide (((((unhide K).setNew (p := ⟨w.heap.size + 2, 0, none⟩) (by simp) (.int .i64 3)).setNew (p := ⟨w.heap.size + 2, 1, none⟩) (by simp) (.bool false)).setNew (p := ⟨w.heap.size + 2, 2, none⟩) (by simp) (.int .i64 0)).setNew (p := ⟨w.heap.size + 2, 3, none⟩) (by simp) (.int .i64 0))
    clear K
    try go_wp2_with fail
    exact bodyPost_ret (v := .tuple #[.agg #[.int .i64 3, .bool false, .int .i64 0, .int .i64 0], .int .i64 16]) (by simp [results, Tryz.results11, go_sem, q0, q1, q2, q3]) rfl ⟨by rw [unhide FQ], unhide KF⟩
  refine (flok_impl_k h2 _).mono ?_
  rintro e w3 ⟨rfl, k3⟩
  replace qf0 := k3.loose0 (World.block_lt_of_cell? _ _ q0) qf0
  replace qf1 := k3.loose0 (World.block_lt_of_cell? _ _ q1) qf1
  replace qf2 := k3.loose0 (World.block_lt_of_cell? _ _ q2) qf2
  replace qf3 := k3.loose0 (World.block_lt_of_cell? _ _ q3) qf3
  replace p0 := k3.cell0 p0
  replace p1 := k3.cell0 p1
  replace p2 := k3.cell0 p2
  replace p3 := k3.cell0 p3
  replace t0 := k3.cell0 t0
  replace t1 := k3.cell0 t1
  replace t2 := k3.cell0 t2
  replace t3 := k3.cell0 t3
  replace q0 := k3.cell0 q0
  replace q1 := k3.cell0 q1
  replace q2 := k3.cell0 q2
  replace q3 := k3.cell0 q3
  replace K := hide ((unhide K).trans k3)
  have z4 := k3.size
  clear k3
  go_wp2_with fail
  refine (isMode_impl mode _).mono ?_
  rintro e w5 ⟨rfl, rfl⟩
  cases hm : modeB mode
  · have FQ : Hid (Q = ((3, false, 0, 0), 16)) := by
      show _ = _
      have hc : okM k1 n1 m1 e1 k2 n2 m2 e2 mode = false := by unfold okM; rw [hm]; simp
      rw [← unhide HQ]; unfold fmulQ; rw [hc]; rfl
    go_wp2_with fail
    refine (bad_impl _).mono ?_
    rintro e w5 ⟨rfl, k5⟩
    replace qf0 := k5.loose0 (World.block_lt_of_cell? _ _ q0) qf0
    replace qf1 := k5.loose0 (World.block_lt_of_cell? _ _ q1) qf1
    replace qf2 := k5.loose0 (World.block_lt_of_cell? _ _ q2) qf2
    replace qf3 := k5.loose0 (World.block_lt_of_cell? _ _ q3) qf3
    replace p0 := k5.cell0 p0
    replace p1 := k5.cell0 p1
    replace p2 := k5.cell0 p2
    replace p3 := k5.cell0 p3
    replace t0 := k5.cell0 t0
    replace t1 := k5.cell0 t1
    replace t2 := k5.cell0 t2
    replace t3 := k5.cell0 t3
    replace q0 := k5.cell0 q0
    replace q1 := k5.cell0 q1
    replace q2 := k5.cell0 q2
    replace q3 := k5.cell0 q3
    replace K := hide ((unhide K).trans k5)
    have z6 := k5.size
    clear k5
    have KF := hide (((((unhide K).setNew (p := ⟨w.heap.size + 2, 0, none⟩) (by simp) (.int .i64 3)).setNew (p := ⟨w.heap.size + 2, 1, none⟩) (by simp) (.bool false)).setNew (p := ⟨w.heap.size + 2, 2, none⟩) (by simp) (.int .i64 0)).setNew (p := ⟨w.heap.size + 2, 3, none⟩) (by simp) (.int .i64 0))
    clear K
    try go_wp2_with fail
    exact bodyPost_ret (v := .tuple #[.agg #[.int .i64 3, .bool false, .int .i64 0, .int .i64 0], .int .i64 16]) (by simp [results, Tryz.results11, go_sem, q0, q1, q2, q3]) rfl ⟨by rw [unhide FQ], unhide KF⟩
  have hc : okM k1 n1 m1 e1 k2 n2 m2 e2 mode = true := by unfold okM; rw [h1, h2, hm]; rfl
  obtain ⟨-, -, h3, h4⟩ := okM_iff hc
  have hM : mulQ k1 n1 m1 e1 k2 n2 m2 e2 mode = Q := by rw [← unhide HQ]; unfold fmulQ; rw [hc, if_pos rfl]
  have HM := hide hM
  have H1 := hide h1
  have H2 := hide h2
  clear hc hM hm h1 h2
  go_wp2_with fail
  obtain ⟨I1, hI1⟩ : ∃ y, ivl k1 n1 m1 e1 = y := ⟨_, rfl⟩
  obtain ⟨I2, hI2⟩ : ∃ y, ivl k2 n2 m2 e2 = y := ⟨_, rfl⟩
  have mf1 := fun w => fo_any (unhide H1) w
  have mf2 := fun w => fo_any (unhide H2) w
  have mm := fun (w : World) (T : TabB w) => mulI_any (unhide H1) (unhide H2) mode h3 h4 w T
  simp only [hI1] at mf1 mm
  simp only [hI2] at mf2 mm
  simp only [unhide HM] at mm
  replace mf1 := hide mf1
  replace mf2 := hide mf2
  replace mm := hide mm
  clear hI1 hI2
  have n_qf0 := qf0
  have n_q0 := q0
  have n_qf1 := qf1
  have n_q1 := q1
  have n_qf2 := qf2
  have n_q2 := q2
  have n_qf3 := qf3
  have n_q3 := q3
  have kd := (Kept.refl 0 0 w5).drew
  replace qf0 := kd.loose0 (World.block_lt_of_cell? _ _ q0) qf0
  replace qf1 := kd.loose0 (World.block_lt_of_cell? _ _ q1) qf1
  replace qf2 := kd.loose0 (World.block_lt_of_cell? _ _ q2) qf2
  replace qf3 := kd.loose0 (World.block_lt_of_cell? _ _ q3) qf3
  replace p0 := kd.cell0 p0
  replace p1 := kd.cell0 p1
  replace p2 := kd.cell0 p2
  replace p3 := kd.cell0 p3
  replace t0 := kd.cell0 t0
  replace t1 := kd.cell0 t1
  replace t2 := kd.cell0 t2
  replace t3 := kd.cell0 t3
  replace q0 := kd.cell0 q0
  replace q1 := kd.cell0 q1
  replace q2 := kd.cell0 q2
  replace q3 := kd.cell0 q3
  replace K := hide ((unhide K).trans kd)
  have z5 := kd.size
  clear kd
  refine wp_region_held_drew (S := (fun w' => w'.cell? ⟨w.heap.size, 0, none⟩ = some (.int .i64 k1) ∧ w'.cell? ⟨w.heap.size, 1, none⟩ = some (.bool n1) ∧ w'.cell? ⟨w.heap.size, 2, none⟩ = some (.int .i64 m1) ∧ w'.cell? ⟨w.heap.size, 3, none⟩ = some (.int .i64 e1) ∧ w'.cell? ⟨w.heap.size + 1, 0, none⟩ = some (.int .i64 k2) ∧ w'.cell? ⟨w.heap.size + 1, 1, none⟩ = some (.bool n2) ∧ w'.cell? ⟨w.heap.size + 1, 2, none⟩ = some (.int .i64 m2) ∧ w'.cell? ⟨w.heap.size + 1, 3, none⟩ = some (.int .i64 e2))) (by kernel_rfl) ?_ (fun hHeld => ?_)
  · exact ⟨p0, p1, p2, p3, t0, t1, t2, t3⟩
  refine wpAnyH_take (i := 0) (oi := _) (v := .agg #[.int .i64 k1, .bool n1, .int .i64 m1, .int .i64 e1]) rfl (by kernel_rfl) (by kernel_rfl) (by kernel_rfl) (fun _ _ _ h => h) (Or.inl ⟨by rfl, ?_⟩) hHeld ?_
  · intro wq hSw
    try dsimp only at hSw
    go_simp
  try simp only [Act.put, List.getElem_toArray, List.getElem_cons_succ, List.getElem_cons_zero, List.setIfInBounds_toArray, List.set_cons_zero, List.set_cons_succ]
  refine wpAnyH_take (i := 2) (oi := _) (v := .agg #[.int .i64 k2, .bool n2, .int .i64 m2, .int .i64 e2]) rfl (by kernel_rfl) (by kernel_rfl) (by kernel_rfl) (fun _ _ _ h => h) (Or.inl ⟨by rfl, ?_⟩) hHeld ?_
  · intro wq hSw
    try dsimp only at hSw
    go_simp
  try simp only [Act.put, List.getElem_toArray, List.getElem_cons_succ, List.getElem_cons_zero, List.setIfInBounds_toArray, List.set_cons_zero, List.set_cons_succ]
  refine wpAnyH_take (i := 4) (oi := _) (v := .int .i64 mode) rfl (by kernel_rfl) (by kernel_rfl) (by kernel_rfl) (fun _ _ _ h => h) (Or.inl ⟨by rfl, ?_⟩) hHeld ?_
  · intro wq hSw
    try dsimp only at hSw
    go_simp
  try simp only [Act.put, List.getElem_toArray, List.getElem_cons_succ, List.getElem_cons_zero, List.setIfInBounds_toArray, List.set_cons_zero, List.set_cons_succ]
  refine wpAnyH_ready (rs := [1]) (by kernel_rfl) (by simp) ?_
  refine AllReadyH.cons rfl (fun KK hK => ?_) AllReadyH.nil
  simp only [List.getElem_toArray, List.getElem_cons_succ, List.getElem_cons_zero]
  rw [if_pos (by rfl)]
  refine wps1 47 (.tmp 24) _ rfl in_impl_floatOf_t (.agg #[.int .i64 k1, .bool n1, .int .i64 m1, .int .i64 e1]) rfl (unhide mf1 _) ?_
  rintro e w6 ⟨rfl, k6⟩
  refine ⟨_, rfl, ?_⟩
  replace qf0 := k6.loose0 (World.block_lt_of_cell? _ _ q0) qf0
  replace qf1 := k6.loose0 (World.block_lt_of_cell? _ _ q1) qf1
  replace qf2 := k6.loose0 (World.block_lt_of_cell? _ _ q2) qf2
  replace qf3 := k6.loose0 (World.block_lt_of_cell? _ _ q3) qf3
  replace p0 := k6.cell0 p0
  replace p1 := k6.cell0 p1
  replace p2 := k6.cell0 p2
  replace p3 := k6.cell0 p3
  replace t0 := k6.cell0 t0
  replace t1 := k6.cell0 t1
  replace t2 := k6.cell0 t2
  replace t3 := k6.cell0 t3
  replace q0 := k6.cell0 q0
  replace q1 := k6.cell0 q1
  replace q2 := k6.cell0 q2
  replace q3 := k6.cell0 q3
  replace K := hide ((unhide K).trans k6)
  have z7 := k6.size
  clear k6
  clear hHeld
  refine hK.out _ _ ?_ (fun hHeld => ?_)
  · exact ⟨p0, p1, p2, p3, t0, t1, t2, t3⟩
  clear hK KK
  try simp only [Act.put, List.getElem_toArray, List.getElem_cons_succ, List.getElem_cons_zero, List.setIfInBounds_toArray, List.set_cons_zero, List.set_cons_succ]
  refine wpAnyH_ready (rs := [3]) (by kernel_rfl) (by simp) ?_
  refine AllReadyH.cons rfl (fun KK hK => ?_) AllReadyH.nil
  simp only [List.getElem_toArray, List.getElem_cons_succ, List.getElem_cons_zero]
  rw [if_pos (by rfl)]
  refine wps1 47 (.tmp 26) _ rfl in_impl_floatOf_t (.agg #[.int .i64 k2, .bool n2, .int .i64 m2, .int .i64 e2]) rfl (unhide mf2 _) ?_
  rintro e w8 ⟨rfl, k8⟩
  refine ⟨_, rfl, ?_⟩
  replace qf0 := k8.loose0 (World.block_lt_of_cell? _ _ q0) qf0
  replace qf1 := k8.loose0 (World.block_lt_of_cell? _ _ q1) qf1
  replace qf2 := k8.loose0 (World.block_lt_of_cell? _ _ q2) qf2
  replace qf3 := k8.loose0 (World.block_lt_of_cell? _ _ q3) qf3
  replace p0 := k8.cell0 p0
  replace p1 := k8.cell0 p1
  replace p2 := k8.cell0 p2
  replace p3 := k8.cell0 p3
  replace t0 := k8.cell0 t0
  replace t1 := k8.cell0 t1
  replace t2 := k8.cell0 t2
  replace t3 := k8.cell0 t3
  replace q0 := k8.cell0 q0
  replace q1 := k8.cell0 q1
  replace q2 := k8.cell0 q2
  replace q3 := k8.cell0 q3
  replace K := hide ((unhide K).trans k8)
  have z9 := k8.size
  clear k8
  clear hHeld
  refine hK.out _ _ ?_ (fun hHeld => ?_)
  · exact ⟨p0, p1, p2, p3, t0, t1, t2, t3⟩
  clear hK KK
  try simp only [Act.put, List.getElem_toArray, List.getElem_cons_succ, List.getElem_cons_zero, List.setIfInBounds_toArray, List.set_cons_zero, List.set_cons_succ]
  refine wpAnyH_ready (rs := [5]) (by kernel_rfl) (by simp) ?_
  refine AllReadyH.cons rfl (fun KK hK => ?_) AllReadyH.nil
  simp only [List.getElem_toArray, List.getElem_cons_succ, List.getElem_cons_zero]
  rw [if_pos (by rfl)]
  refine wps3 48 (.tmp 25) (.tmp 27) (.tmp 28) _ rfl in_impl_multiplyFloats_t I1 I2 (.int .i64 mode) rfl rfl rfl (unhide mm _ (T.kept (unhide K))) ?_
  rintro e w10 ⟨rfl, k10⟩
  refine ⟨_, rfl, ?_⟩
  replace qf0 := k10.loose0 (World.block_lt_of_cell? _ _ q0) qf0
  replace qf1 := k10.loose0 (World.block_lt_of_cell? _ _ q1) qf1
  replace qf2 := k10.loose0 (World.block_lt_of_cell? _ _ q2) qf2
  replace qf3 := k10.loose0 (World.block_lt_of_cell? _ _ q3) qf3
  replace p0 := k10.cell0 p0
  replace p1 := k10.cell0 p1
  replace p2 := k10.cell0 p2
  replace p3 := k10.cell0 p3
  replace t0 := k10.cell0 t0
  replace t1 := k10.cell0 t1
  replace t2 := k10.cell0 t2
  replace t3 := k10.cell0 t3
  replace q0 := k10.cell0 q0
  replace q1 := k10.cell0 q1
  replace q2 := k10.cell0 q2
  replace q3 := k10.cell0 q3
  replace K := hide ((unhide K).trans k10)
  have z11 := k10.size
  clear k10
  clear hHeld
  refine hK.out _ _ ?_ (fun hHeld => ?_)
  · exact ⟨p0, p1, p2, p3, t0, t1, t2, t3⟩
  clear hK KK
  try simp only [Act.put, List.getElem_toArray, List.getElem_cons_succ, List.getElem_cons_zero, List.setIfInBounds_toArray, List.set_cons_zero, List.set_cons_succ]
  refine wpAnyH_take (i := 6) (oi := _) (v := .agg #[.int .i64 Q.1.1, .bool Q.1.2.1, .int .i64 Q.1.2.2.1, .int .i64 Q.1.2.2.2]) rfl (by kernel_rfl) (by kernel_rfl) (by kernel_rfl) (fun _ _ _ h => h) (Or.inl ⟨by rfl, ?_⟩) hHeld ?_
  · intro wq hSw
    try dsimp only at hSw
    go_simp
  try simp only [Act.put, List.getElem_toArray, List.getElem_cons_succ, List.getElem_cons_zero, List.setIfInBounds_toArray, List.set_cons_zero, List.set_cons_succ]
  refine wpAnyH_take (i := 7) (oi := _) (v := .int .i64 Q.2) rfl (by kernel_rfl) (by kernel_rfl) (by kernel_rfl) (fun _ _ _ h => h) (Or.inl ⟨by rfl, ?_⟩) hHeld ?_
  · intro wq hSw
    try dsimp only at hSw
    go_simp
  try simp only [Act.put, List.getElem_toArray, List.getElem_cons_succ, List.getElem_cons_zero, List.setIfInBounds_toArray, List.set_cons_zero, List.set_cons_succ]
  refine wpAnyH_ready (rs := [8]) (by kernel_rfl) (by simp) ?_
  refine AllReadyH.cons rfl (fun KK hK => ?_) AllReadyH.nil
  simp only [List.getElem_toArray, List.getElem_cons_succ, List.getElem_cons_zero]
  rw [if_pos (by rfl)]
  go_simp
  clear hHeld
  refine hK.out _ _ ?_ (fun hHeld => ?_)
  · exact ⟨(cell_aside _ (by have := unhide S0; dsimp only; omega) (cell_aside _ (by have := unhide S0; dsimp only; omega) (cell_aside _ (by have := unhide S0; dsimp only; omega) (cell_aside _ (by have := unhide S0; dsimp only; omega) p0)))), (cell_aside _ (by have := unhide S0; dsimp only; omega) (cell_aside _ (by have := unhide S0; dsimp only; omega) (cell_aside _ (by have := unhide S0; dsimp only; omega) (cell_aside _ (by have := unhide S0; dsimp only; omega) p1)))), (cell_aside _ (by have := unhide S0; dsimp only; omega) (cell_aside _ (by have := unhide S0; dsimp only; omega) (cell_aside _ (by have := unhide S0; dsimp only; omega) (cell_aside _ (by have := unhide S0; dsimp only; omega) p2)))), (cell_aside _ (by have := unhide S0; dsimp only; omega) (cell_aside _ (by have := unhide S0; dsimp only; omega) (cell_aside _ (by have := unhide S0; dsimp only; omega) (cell_aside _ (by have := unhide S0; dsimp only; omega) p3)))), (cell_aside _ (by have := unhide S0; dsimp only; omega) (cell_aside _ (by have := unhide S0; dsimp only; omega) (cell_aside _ (by have := unhide S0; dsimp only; omega) (cell_aside _ (by have := unhide S0; dsimp only; omega) t0)))), (cell_aside _ (by have := unhide S0; dsimp only; omega) (cell_aside _ (by have := unhide S0; dsimp only; omega) (cell_aside _ (by have := unhide S0; dsimp only; omega) (cell_aside _ (by have := unhide S0; dsimp only; omega) t1)))), (cell_aside _ (by have := unhide S0; dsimp only; omega) (cell_aside _ (by have := unhide S0; dsimp only; omega) (cell_aside _ (by have := unhide S0; dsimp only; omega) (cell_aside _ (by have := unhide S0; dsimp only; omega) t2)))), (cell_aside _ (by have := unhide S0; dsimp only; omega) (cell_aside _ (by have := unhide S0; dsimp only; omega) (cell_aside _ (by have := unhide S0; dsimp only; omega) (cell_aside _ (by have := unhide S0; dsimp only; omega) t3))))⟩
  clear hK KK
  try simp only [Act.put, List.getElem_toArray, List.getElem_cons_succ, List.getElem_cons_zero, List.setIfInBounds_toArray, List.set_cons_zero, List.set_cons_succ]
  refine wpAnyH_take (i := 9) (oi := _) (v := .int .i64 Q.2) rfl (by kernel_rfl) (by kernel_rfl) (by kernel_rfl) (fun _ _ _ h => h) (Or.inl ⟨by rfl, ?_⟩) hHeld ?_
  · intro wq hSw
    try dsimp only at hSw
    go_simp
  try simp only [Act.put, List.getElem_toArray, List.getElem_cons_succ, List.getElem_cons_zero, List.setIfInBounds_toArray, List.set_cons_zero, List.set_cons_succ]
  refine wpAnyH_done (by kernel_rfl) ?_ _
  clear hHeld
  have KF := hide (((((unhide K).setNew (p := ⟨w.heap.size + 2, 0, none⟩) (by simp) (.int .i64 Q.1.1)).setNew (p := ⟨w.heap.size + 2, 1, none⟩) (by simp) (.bool Q.1.2.1)).setNew (p := ⟨w.heap.size + 2, 2, none⟩) (by simp) (.int .i64 Q.1.2.2.1)).setNew (p := ⟨w.heap.size + 2, 3, none⟩) (by simp) (.int .i64 Q.1.2.2.2))
  clear K
  try go_wp2_with fail
  exact bodyPost_ret (v := .tuple #[.agg #[.int .i64 Q.1.1, .bool Q.1.2.1, .int .i64 Q.1.2.2.1, .int .i64 Q.1.2.2.2], .int .i64 Q.2]) (by simp [results, Tryz.results11, go_sem, q0, q1, q2, q3]) rfl ⟨rfl, unhide KF⟩

theorem in_impl_FlNeg_t : ∀ (w : World) (args : Array Value), (callFunc 13 args).run Tryz.prog w = .ok (.enter 13 args) w := enters Tryz.func13 (by decide) (fun h => by cases h)

/-- The sign of the opposite. -/
def negN (k : Int) (n : Bool) : Bool := if k = 3 then n else !n
theorem flok_neg {k : Int} {n : Bool} {m e : Int} (h : flok k n m e = true) : flok k (negN k n) m e = true := by
  rcases flok_ways h with ⟨rfl, -⟩ | ⟨rfl, rfl, rfl⟩ | ⟨rfl, rfl, rfl⟩ | ⟨rfl, rfl, rfl, rfl⟩
  · unfold flok at h ⊢; simpa [negN] using h
  · unfold flok; simp
  · unfold flok; simp
  · exact h
def fsubQ (k1 : Int) (n1 : Bool) (m1 e1 k2 : Int) (n2 : Bool) (m2 e2 mode : Int) : (Int × Bool × Int × Int) × Int := if okM k1 n1 m1 e1 k2 n2 m2 e2 mode = true then addQ k1 n1 m1 e1 k2 (negN k2 n2) m2 e2 mode else ((3, false, 0, 0), 16)
theorem negI_any {k : Int} {n : Bool} {m e : Int} (h : flok k n m e = true) (w : World) :
    Calls Tryz.prog 13 #[flv k n m e] w fun r w' => r = .returned (flv k (negN k n) m e) ∧ Kept 0 0 w w' := by
  rcases flok_ways h with ⟨rfl, -⟩ | ⟨rfl, rfl, rfl⟩ | ⟨rfl, rfl, rfl⟩ | ⟨rfl, rfl, rfl, rfl⟩
  · exact (flneg_impl_not 1 n m e h rfl w).mono (fun r w' hh => ⟨hh.1, hh.2⟩)
  · exact (flneg_impl_not 0 n 0 0 h rfl w).mono (fun r w' hh => ⟨hh.1, hh.2⟩)
  · exact (flneg_impl_not 2 n 0 0 h rfl w).mono (fun r w' hh => ⟨hh.1, hh.2⟩)
  · exact (flneg_impl_nan h w).mono (fun r w' hh => ⟨hh.1, hh.2⟩)

set_option maxHeartbeats 2000000 in
theorem flsub_impl (k1 : Int) (n1 : Bool) (m1 e1 k2 : Int) (n2 : Bool) (m2 e2 mode : Int) (w : World) (T : TabB w) :
    Calls Tryz.prog 12 #[flv k1 n1 m1 e1, flv k2 n2 m2 e2, .int .i64 mode] w fun e' w' => e' = .returned (.tuple #[flq (fsubQ k1 n1 m1 e1 k2 n2 m2 e2 mode).1, .int .i64 (fsubQ k1 n1 m1 e1 k2 n2 m2 e2 mode).2]) ∧ Kept 0 0 w w' := by
  obtain ⟨Q, hQ⟩ : ∃ q, fsubQ k1 n1 m1 e1 k2 n2 m2 e2 mode = q := ⟨_, rfl⟩
  rw [hQ]
  have HQ := hide hQ
  clear hQ
  have k0 : Kept 0 0 w (((w.alloc (.cells #[.int .i64 k1, .bool n1, .int .i64 m1, .int .i64 e1] 25)).alloc (.cells #[.int .i64 k2, .bool n2, .int .i64 m2, .int .i64 e2] 25)).alloc (.cells #[.int .i64 0, .bool false, .int .i64 0, .int .i64 0] 25)) := ((((Kept.refl 0 0 w).alloc (.cells #[.int .i64 k1, .bool n1, .int .i64 m1, .int .i64 e1] 25)).alloc (.cells #[.int .i64 k2, .bool n2, .int .i64 m2, .int .i64 e2] 25)).alloc (.cells #[.int .i64 0, .bool false, .int .i64 0, .int .i64 0] 25))
  have p0 : (((w.alloc (.cells #[.int .i64 k1, .bool n1, .int .i64 m1, .int .i64 e1] 25)).alloc (.cells #[.int .i64 k2, .bool n2, .int .i64 m2, .int .i64 e2] 25)).alloc (.cells #[.int .i64 0, .bool false, .int .i64 0, .int .i64 0] 25)).cell? ⟨w.heap.size, 0, none⟩ = some (.int .i64 k1) := old_cell _ (old_cell _ (new_cell2 _ _ _ _ _ _ (by simp) rfl))
  have p1 : (((w.alloc (.cells #[.int .i64 k1, .bool n1, .int .i64 m1, .int .i64 e1] 25)).alloc (.cells #[.int .i64 k2, .bool n2, .int .i64 m2, .int .i64 e2] 25)).alloc (.cells #[.int .i64 0, .bool false, .int .i64 0, .int .i64 0] 25)).cell? ⟨w.heap.size, 1, none⟩ = some (.bool n1) := old_cell _ (old_cell _ (new_cell2 _ _ _ _ _ _ (by simp) rfl))
  have p2 : (((w.alloc (.cells #[.int .i64 k1, .bool n1, .int .i64 m1, .int .i64 e1] 25)).alloc (.cells #[.int .i64 k2, .bool n2, .int .i64 m2, .int .i64 e2] 25)).alloc (.cells #[.int .i64 0, .bool false, .int .i64 0, .int .i64 0] 25)).cell? ⟨w.heap.size, 2, none⟩ = some (.int .i64 m1) := old_cell _ (old_cell _ (new_cell2 _ _ _ _ _ _ (by simp) rfl))
  have p3 : (((w.alloc (.cells #[.int .i64 k1, .bool n1, .int .i64 m1, .int .i64 e1] 25)).alloc (.cells #[.int .i64 k2, .bool n2, .int .i64 m2, .int .i64 e2] 25)).alloc (.cells #[.int .i64 0, .bool false, .int .i64 0, .int .i64 0] 25)).cell? ⟨w.heap.size, 3, none⟩ = some (.int .i64 e1) := old_cell _ (old_cell _ (new_cell2 _ _ _ _ _ _ (by simp) rfl))
  have t0 : (((w.alloc (.cells #[.int .i64 k1, .bool n1, .int .i64 m1, .int .i64 e1] 25)).alloc (.cells #[.int .i64 k2, .bool n2, .int .i64 m2, .int .i64 e2] 25)).alloc (.cells #[.int .i64 0, .bool false, .int .i64 0, .int .i64 0] 25)).cell? ⟨w.heap.size + 1, 0, none⟩ = some (.int .i64 k2) := old_cell _ (new_cell2 _ _ _ _ _ _ (by simp) rfl)
  have t1 : (((w.alloc (.cells #[.int .i64 k1, .bool n1, .int .i64 m1, .int .i64 e1] 25)).alloc (.cells #[.int .i64 k2, .bool n2, .int .i64 m2, .int .i64 e2] 25)).alloc (.cells #[.int .i64 0, .bool false, .int .i64 0, .int .i64 0] 25)).cell? ⟨w.heap.size + 1, 1, none⟩ = some (.bool n2) := old_cell _ (new_cell2 _ _ _ _ _ _ (by simp) rfl)
  have t2 : (((w.alloc (.cells #[.int .i64 k1, .bool n1, .int .i64 m1, .int .i64 e1] 25)).alloc (.cells #[.int .i64 k2, .bool n2, .int .i64 m2, .int .i64 e2] 25)).alloc (.cells #[.int .i64 0, .bool false, .int .i64 0, .int .i64 0] 25)).cell? ⟨w.heap.size + 1, 2, none⟩ = some (.int .i64 m2) := old_cell _ (new_cell2 _ _ _ _ _ _ (by simp) rfl)
  have t3 : (((w.alloc (.cells #[.int .i64 k1, .bool n1, .int .i64 m1, .int .i64 e1] 25)).alloc (.cells #[.int .i64 k2, .bool n2, .int .i64 m2, .int .i64 e2] 25)).alloc (.cells #[.int .i64 0, .bool false, .int .i64 0, .int .i64 0] 25)).cell? ⟨w.heap.size + 1, 3, none⟩ = some (.int .i64 e2) := old_cell _ (new_cell2 _ _ _ _ _ _ (by simp) rfl)
  have q0 : (((w.alloc (.cells #[.int .i64 k1, .bool n1, .int .i64 m1, .int .i64 e1] 25)).alloc (.cells #[.int .i64 k2, .bool n2, .int .i64 m2, .int .i64 e2] 25)).alloc (.cells #[.int .i64 0, .bool false, .int .i64 0, .int .i64 0] 25)).cell? ⟨w.heap.size + 2, 0, none⟩ = some (.int .i64 0) := new_cell2 _ _ _ _ _ _ (by simp) rfl
  have qf0 : (((w.alloc (.cells #[.int .i64 k1, .bool n1, .int .i64 m1, .int .i64 e1] 25)).alloc (.cells #[.int .i64 k2, .bool n2, .int .i64 m2, .int .i64 e2] 25)).alloc (.cells #[.int .i64 0, .bool false, .int .i64 0, .int .i64 0] 25)).frozen? ⟨w.heap.size + 2, 0, none⟩ = false := new_loose2 _ _ _ _ _ (by simp)
  have q1 : (((w.alloc (.cells #[.int .i64 k1, .bool n1, .int .i64 m1, .int .i64 e1] 25)).alloc (.cells #[.int .i64 k2, .bool n2, .int .i64 m2, .int .i64 e2] 25)).alloc (.cells #[.int .i64 0, .bool false, .int .i64 0, .int .i64 0] 25)).cell? ⟨w.heap.size + 2, 1, none⟩ = some (.bool false) := new_cell2 _ _ _ _ _ _ (by simp) rfl
  have qf1 : (((w.alloc (.cells #[.int .i64 k1, .bool n1, .int .i64 m1, .int .i64 e1] 25)).alloc (.cells #[.int .i64 k2, .bool n2, .int .i64 m2, .int .i64 e2] 25)).alloc (.cells #[.int .i64 0, .bool false, .int .i64 0, .int .i64 0] 25)).frozen? ⟨w.heap.size + 2, 1, none⟩ = false := new_loose2 _ _ _ _ _ (by simp)
  have q2 : (((w.alloc (.cells #[.int .i64 k1, .bool n1, .int .i64 m1, .int .i64 e1] 25)).alloc (.cells #[.int .i64 k2, .bool n2, .int .i64 m2, .int .i64 e2] 25)).alloc (.cells #[.int .i64 0, .bool false, .int .i64 0, .int .i64 0] 25)).cell? ⟨w.heap.size + 2, 2, none⟩ = some (.int .i64 0) := new_cell2 _ _ _ _ _ _ (by simp) rfl
  have qf2 : (((w.alloc (.cells #[.int .i64 k1, .bool n1, .int .i64 m1, .int .i64 e1] 25)).alloc (.cells #[.int .i64 k2, .bool n2, .int .i64 m2, .int .i64 e2] 25)).alloc (.cells #[.int .i64 0, .bool false, .int .i64 0, .int .i64 0] 25)).frozen? ⟨w.heap.size + 2, 2, none⟩ = false := new_loose2 _ _ _ _ _ (by simp)
  have q3 : (((w.alloc (.cells #[.int .i64 k1, .bool n1, .int .i64 m1, .int .i64 e1] 25)).alloc (.cells #[.int .i64 k2, .bool n2, .int .i64 m2, .int .i64 e2] 25)).alloc (.cells #[.int .i64 0, .bool false, .int .i64 0, .int .i64 0] 25)).cell? ⟨w.heap.size + 2, 3, none⟩ = some (.int .i64 0) := new_cell2 _ _ _ _ _ _ (by simp) rfl
  have qf3 : (((w.alloc (.cells #[.int .i64 k1, .bool n1, .int .i64 m1, .int .i64 e1] 25)).alloc (.cells #[.int .i64 k2, .bool n2, .int .i64 m2, .int .i64 e2] 25)).alloc (.cells #[.int .i64 0, .bool false, .int .i64 0, .int .i64 0] 25)).frozen? ⟨w.heap.size + 2, 3, none⟩ = false := new_loose2 _ _ _ _ _ (by simp)
  have s0 : (((w.alloc (.cells #[.int .i64 k1, .bool n1, .int .i64 m1, .int .i64 e1] 25)).alloc (.cells #[.int .i64 k2, .bool n2, .int .i64 m2, .int .i64 e2] 25)).alloc (.cells #[.int .i64 0, .bool false, .int .i64 0, .int .i64 0] 25)).heap.size = w.heap.size + 3 := by simp
  have K := hide (k0)
  clear k0
  have S0 := hide s0
  clear s0
  go_enter Tryz.func12, Tryz.ntmps12
  go_wp2_with fail
  generalize (((w.alloc (.cells #[.int .i64 k1, .bool n1, .int .i64 m1, .int .i64 e1] 25)).alloc (.cells #[.int .i64 k2, .bool n2, .int .i64 m2, .int .i64 e2] 25)).alloc (.cells #[.int .i64 0, .bool false, .int .i64 0, .int .i64 0] 25)) = W at *
  cases h2 : flok k2 n2 m2 e2
  · refine (flok_impl_k h2 _).mono ?_
    rintro e w1 ⟨rfl, k1⟩
    replace qf0 := k1.loose0 (World.block_lt_of_cell? _ _ q0) qf0
    replace qf1 := k1.loose0 (World.block_lt_of_cell? _ _ q1) qf1
    replace qf2 := k1.loose0 (World.block_lt_of_cell? _ _ q2) qf2
    replace qf3 := k1.loose0 (World.block_lt_of_cell? _ _ q3) qf3
    replace p0 := k1.cell0 p0
    replace p1 := k1.cell0 p1
    replace p2 := k1.cell0 p2
    replace p3 := k1.cell0 p3
    replace t0 := k1.cell0 t0
    replace t1 := k1.cell0 t1
    replace t2 := k1.cell0 t2
    replace t3 := k1.cell0 t3
    replace q0 := k1.cell0 q0
    replace q1 := k1.cell0 q1
    replace q2 := k1.cell0 q2
    replace q3 := k1.cell0 q3
    replace K := hide ((unhide K).trans k1)
    have z2 := k1.size
    clear k1
    have FQ : Hid (Q = ((3, false, 0, 0), 16)) := by
      show _ = _
      have hc : okM k1 n1 m1 e1 k2 n2 m2 e2 mode = false := by unfold okM; rw [h2]; simp
      rw [← unhide HQ]; unfold fsubQ; rw [hc]; rfl
    go_wp2_with fail
    refine (bad_impl _).mono ?_
    rintro e w3 ⟨rfl, k3⟩
    replace qf0 := k3.loose0 (World.block_lt_of_cell? _ _ q0) qf0
    replace qf1 := k3.loose0 (World.block_lt_of_cell? _ _ q1) qf1
    replace qf2 := k3.loose0 (World.block_lt_of_cell? _ _ q2) qf2
    replace qf3 := k3.loose0 (World.block_lt_of_cell? _ _ q3) qf3
    replace p0 := k3.cell0 p0
    replace p1 := k3.cell0 p1
    replace p2 := k3.cell0 p2
    replace p3 := k3.cell0 p3
    replace t0 := k3.cell0 t0
    replace t1 := k3.cell0 t1
    replace t2 := k3.cell0 t2
    replace t3 := k3.cell0 t3
    replace q0 := k3.cell0 q0
    replace q1 := k3.cell0 q1
    replace q2 := k3.cell0 q2
    replace q3 := k3.cell0 q3
    replace K := hide ((unhide K).trans k3)
    have z4 := k3.size
    clear k3
    have KF := hide (((((unhide K).setNew (p := ⟨w.heap.size + 2, 0, none⟩) (by simp) (.int .i64 3)).setNew (p := ⟨w.heap.size + 2, 1, none⟩) (by simp) (.bool false)).setNew (p := ⟨w.heap.size + 2, 2, none⟩) (by simp) (.int .i64 0)).setNew (p := ⟨w.heap.size + 2, 3, none⟩) (by simp) (.int .i64 0))
    clear K
    try go_wp2_with fail
    exact bodyPost_ret (v := .tuple #[.agg #[.int .i64 3, .bool false, .int .i64 0, .int .i64 0], .int .i64 16]) (by simp [results, Tryz.results12, go_sem, q0, q1, q2, q3]) rfl ⟨by rw [unhide FQ], unhide KF⟩
  refine (flok_impl_k h2 _).mono ?_
  rintro e w1 ⟨rfl, k1⟩
  replace qf0 := k1.loose0 (World.block_lt_of_cell? _ _ q0) qf0
  replace qf1 := k1.loose0 (World.block_lt_of_cell? _ _ q1) qf1
  replace qf2 := k1.loose0 (World.block_lt_of_cell? _ _ q2) qf2
  replace qf3 := k1.loose0 (World.block_lt_of_cell? _ _ q3) qf3
  replace p0 := k1.cell0 p0
  replace p1 := k1.cell0 p1
  replace p2 := k1.cell0 p2
  replace p3 := k1.cell0 p3
  replace t0 := k1.cell0 t0
  replace t1 := k1.cell0 t1
  replace t2 := k1.cell0 t2
  replace t3 := k1.cell0 t3
  replace q0 := k1.cell0 q0
  replace q1 := k1.cell0 q1
  replace q2 := k1.cell0 q2
  replace q3 := k1.cell0 q3
  replace K := hide ((unhide K).trans k1)
  have z2 := k1.size
  clear k1
  have hM : faddQ k1 n1 m1 e1 k2 (negN k2 n2) m2 e2 mode = Q := by
    rw [← unhide HQ]
    unfold fsubQ faddQ okM
    rw [h2, flok_neg h2]
  have mn := fun w => negI_any h2 w
  have ma := fun (w : World) (T : TabB w) => fladd_impl k1 n1 m1 e1 k2 (negN k2 n2) m2 e2 mode w T
  simp only [hM] at ma
  obtain ⟨N2, hN2⟩ : ∃ y, negN k2 n2 = y := ⟨_, rfl⟩
  simp only [hN2] at mn ma
  replace mn := hide mn
  replace ma := hide ma
  clear h2 hM hN2
  go_wp2_with fail
  have n_qf0 := qf0
  have n_q0 := q0
  have n_qf1 := qf1
  have n_q1 := q1
  have n_qf2 := qf2
  have n_q2 := q2
  have n_qf3 := qf3
  have n_q3 := q3
  have kd := (Kept.refl 0 0 w1).drew
  replace qf0 := kd.loose0 (World.block_lt_of_cell? _ _ q0) qf0
  replace qf1 := kd.loose0 (World.block_lt_of_cell? _ _ q1) qf1
  replace qf2 := kd.loose0 (World.block_lt_of_cell? _ _ q2) qf2
  replace qf3 := kd.loose0 (World.block_lt_of_cell? _ _ q3) qf3
  replace p0 := kd.cell0 p0
  replace p1 := kd.cell0 p1
  replace p2 := kd.cell0 p2
  replace p3 := kd.cell0 p3
  replace t0 := kd.cell0 t0
  replace t1 := kd.cell0 t1
  replace t2 := kd.cell0 t2
  replace t3 := kd.cell0 t3
  replace q0 := kd.cell0 q0
  replace q1 := kd.cell0 q1
  replace q2 := kd.cell0 q2
  replace q3 := kd.cell0 q3
  replace K := hide ((unhide K).trans kd)
  have z3 := kd.size
  clear kd
  refine wp_region_held_drew (S := (fun w' => w'.cell? ⟨w.heap.size, 0, none⟩ = some (.int .i64 k1) ∧ w'.cell? ⟨w.heap.size, 1, none⟩ = some (.bool n1) ∧ w'.cell? ⟨w.heap.size, 2, none⟩ = some (.int .i64 m1) ∧ w'.cell? ⟨w.heap.size, 3, none⟩ = some (.int .i64 e1) ∧ w'.cell? ⟨w.heap.size + 1, 0, none⟩ = some (.int .i64 k2) ∧ w'.cell? ⟨w.heap.size + 1, 1, none⟩ = some (.bool n2) ∧ w'.cell? ⟨w.heap.size + 1, 2, none⟩ = some (.int .i64 m2) ∧ w'.cell? ⟨w.heap.size + 1, 3, none⟩ = some (.int .i64 e2))) (by kernel_rfl) ?_ (fun hHeld => ?_)
  · exact ⟨p0, p1, p2, p3, t0, t1, t2, t3⟩
  refine wpAnyH_take (i := 0) (oi := _) (v := .agg #[.int .i64 k1, .bool n1, .int .i64 m1, .int .i64 e1]) rfl (by kernel_rfl) (by kernel_rfl) (by kernel_rfl) (fun _ _ _ h => h) (Or.inl ⟨by rfl, ?_⟩) hHeld ?_
  · intro wq hSw
    try dsimp only at hSw
    go_simp
  try simp only [Act.put, List.getElem_toArray, List.getElem_cons_succ, List.getElem_cons_zero, List.setIfInBounds_toArray, List.set_cons_zero, List.set_cons_succ]
  refine wpAnyH_take (i := 1) (oi := _) (v := .agg #[.int .i64 k2, .bool n2, .int .i64 m2, .int .i64 e2]) rfl (by kernel_rfl) (by kernel_rfl) (by kernel_rfl) (fun _ _ _ h => h) (Or.inl ⟨by rfl, ?_⟩) hHeld ?_
  · intro wq hSw
    try dsimp only at hSw
    go_simp
  try simp only [Act.put, List.getElem_toArray, List.getElem_cons_succ, List.getElem_cons_zero, List.setIfInBounds_toArray, List.set_cons_zero, List.set_cons_succ]
  refine wpAnyH_take (i := 3) (oi := _) (v := .int .i64 mode) rfl (by kernel_rfl) (by kernel_rfl) (by kernel_rfl) (fun _ _ _ h => h) (Or.inl ⟨by rfl, ?_⟩) hHeld ?_
  · intro wq hSw
    try dsimp only at hSw
    go_simp
  try simp only [Act.put, List.getElem_toArray, List.getElem_cons_succ, List.getElem_cons_zero, List.setIfInBounds_toArray, List.set_cons_zero, List.set_cons_succ]
  refine wpAnyH_ready (rs := [2]) (by kernel_rfl) (by simp) ?_
  refine AllReadyH.cons rfl (fun KK hK => ?_) AllReadyH.nil
  simp only [List.getElem_toArray, List.getElem_cons_succ, List.getElem_cons_zero]
  rw [if_pos (by rfl)]
  refine wps1 13 (.tmp 15) _ rfl in_impl_FlNeg_t (.agg #[.int .i64 k2, .bool n2, .int .i64 m2, .int .i64 e2]) rfl (unhide mn _) ?_
  rintro e w4 ⟨rfl, k4⟩
  refine ⟨_, rfl, ?_⟩
  replace qf0 := k4.loose0 (World.block_lt_of_cell? _ _ q0) qf0
  replace qf1 := k4.loose0 (World.block_lt_of_cell? _ _ q1) qf1
  replace qf2 := k4.loose0 (World.block_lt_of_cell? _ _ q2) qf2
  replace qf3 := k4.loose0 (World.block_lt_of_cell? _ _ q3) qf3
  replace p0 := k4.cell0 p0
  replace p1 := k4.cell0 p1
  replace p2 := k4.cell0 p2
  replace p3 := k4.cell0 p3
  replace t0 := k4.cell0 t0
  replace t1 := k4.cell0 t1
  replace t2 := k4.cell0 t2
  replace t3 := k4.cell0 t3
  replace q0 := k4.cell0 q0
  replace q1 := k4.cell0 q1
  replace q2 := k4.cell0 q2
  replace q3 := k4.cell0 q3
  replace K := hide ((unhide K).trans k4)
  have z5 := k4.size
  clear k4
  clear hHeld
  refine hK.out _ _ ?_ (fun hHeld => ?_)
  · exact ⟨p0, p1, p2, p3, t0, t1, t2, t3⟩
  clear hK KK
  try simp only [Act.put, List.getElem_toArray, List.getElem_cons_succ, List.getElem_cons_zero, List.setIfInBounds_toArray, List.set_cons_zero, List.set_cons_succ]
  refine wpAnyH_ready (rs := [4]) (by kernel_rfl) (by simp) ?_
  refine AllReadyH.cons rfl (fun KK hK => ?_) AllReadyH.nil
  simp only [List.getElem_toArray, List.getElem_cons_succ, List.getElem_cons_zero]
  rw [if_pos (by rfl)]
  refine wps3 10 (.tmp 14) (.tmp 16) (.tmp 17) _ rfl in_impl_FlAdd_t (.agg #[.int .i64 k1, .bool n1, .int .i64 m1, .int .i64 e1]) (.agg #[.int .i64 k2, .bool N2, .int .i64 m2, .int .i64 e2]) (.int .i64 mode) rfl rfl rfl (unhide ma _ (T.kept (unhide K))) ?_
  rintro e w6 ⟨rfl, k6⟩
  refine ⟨_, rfl, ?_⟩
  replace qf0 := k6.loose0 (World.block_lt_of_cell? _ _ q0) qf0
  replace qf1 := k6.loose0 (World.block_lt_of_cell? _ _ q1) qf1
  replace qf2 := k6.loose0 (World.block_lt_of_cell? _ _ q2) qf2
  replace qf3 := k6.loose0 (World.block_lt_of_cell? _ _ q3) qf3
  replace p0 := k6.cell0 p0
  replace p1 := k6.cell0 p1
  replace p2 := k6.cell0 p2
  replace p3 := k6.cell0 p3
  replace t0 := k6.cell0 t0
  replace t1 := k6.cell0 t1
  replace t2 := k6.cell0 t2
  replace t3 := k6.cell0 t3
  replace q0 := k6.cell0 q0
  replace q1 := k6.cell0 q1
  replace q2 := k6.cell0 q2
  replace q3 := k6.cell0 q3
  replace K := hide ((unhide K).trans k6)
  have z7 := k6.size
  clear k6
  clear hHeld
  refine hK.out _ _ ?_ (fun hHeld => ?_)
  · exact ⟨p0, p1, p2, p3, t0, t1, t2, t3⟩
  clear hK KK
  try simp only [Act.put, List.getElem_toArray, List.getElem_cons_succ, List.getElem_cons_zero, List.setIfInBounds_toArray, List.set_cons_zero, List.set_cons_succ]
  refine wpAnyH_take (i := 5) (oi := _) (v := .agg #[.int .i64 Q.1.1, .bool Q.1.2.1, .int .i64 Q.1.2.2.1, .int .i64 Q.1.2.2.2]) rfl (by kernel_rfl) (by kernel_rfl) (by kernel_rfl) (fun _ _ _ h => h) (Or.inl ⟨by rfl, ?_⟩) hHeld ?_
  · intro wq hSw
    try dsimp only at hSw
    go_simp
  try simp only [Act.put, List.getElem_toArray, List.getElem_cons_succ, List.getElem_cons_zero, List.setIfInBounds_toArray, List.set_cons_zero, List.set_cons_succ]
  refine wpAnyH_take (i := 6) (oi := _) (v := .int .i64 Q.2) rfl (by kernel_rfl) (by kernel_rfl) (by kernel_rfl) (fun _ _ _ h => h) (Or.inl ⟨by rfl, ?_⟩) hHeld ?_
  · intro wq hSw
    try dsimp only at hSw
    go_simp
  try simp only [Act.put, List.getElem_toArray, List.getElem_cons_succ, List.getElem_cons_zero, List.setIfInBounds_toArray, List.set_cons_zero, List.set_cons_succ]
  refine wpAnyH_ready (rs := [7]) (by kernel_rfl) (by simp) ?_
  refine AllReadyH.cons rfl (fun KK hK => ?_) AllReadyH.nil
  simp only [List.getElem_toArray, List.getElem_cons_succ, List.getElem_cons_zero]
  rw [if_pos (by rfl)]
  go_simp
  clear hHeld
  refine hK.out _ _ ?_ (fun hHeld => ?_)
  · exact ⟨(cell_aside _ (by have := unhide S0; dsimp only; omega) (cell_aside _ (by have := unhide S0; dsimp only; omega) (cell_aside _ (by have := unhide S0; dsimp only; omega) (cell_aside _ (by have := unhide S0; dsimp only; omega) p0)))), (cell_aside _ (by have := unhide S0; dsimp only; omega) (cell_aside _ (by have := unhide S0; dsimp only; omega) (cell_aside _ (by have := unhide S0; dsimp only; omega) (cell_aside _ (by have := unhide S0; dsimp only; omega) p1)))), (cell_aside _ (by have := unhide S0; dsimp only; omega) (cell_aside _ (by have := unhide S0; dsimp only; omega) (cell_aside _ (by have := unhide S0; dsimp only; omega) (cell_aside _ (by have := unhide S0; dsimp only; omega) p2)))), (cell_aside _ (by have := unhide S0; dsimp only; omega) (cell_aside _ (by have := unhide S0; dsimp only; omega) (cell_aside _ (by have := unhide S0; dsimp only; omega) (cell_aside _ (by have := unhide S0; dsimp only; omega) p3)))), (cell_aside _ (by have := unhide S0; dsimp only; omega) (cell_aside _ (by have := unhide S0; dsimp only; omega) (cell_aside _ (by have := unhide S0; dsimp only; omega) (cell_aside _ (by have := unhide S0; dsimp only; omega) t0)))), (cell_aside _ (by have := unhide S0; dsimp only; omega) (cell_aside _ (by have := unhide S0; dsimp only; omega) (cell_aside _ (by have := unhide S0; dsimp only; omega) (cell_aside _ (by have := unhide S0; dsimp only; omega) t1)))), (cell_aside _ (by have := unhide S0; dsimp only; omega) (cell_aside _ (by have := unhide S0; dsimp only; omega) (cell_aside _ (by have := unhide S0; dsimp only; omega) (cell_aside _ (by have := unhide S0; dsimp only; omega) t2)))), (cell_aside _ (by have := unhide S0; dsimp only; omega) (cell_aside _ (by have := unhide S0; dsimp only; omega) (cell_aside _ (by have := unhide S0; dsimp only; omega) (cell_aside _ (by have := unhide S0; dsimp only; omega) t3))))⟩
  clear hK KK
  try simp only [Act.put, List.getElem_toArray, List.getElem_cons_succ, List.getElem_cons_zero, List.setIfInBounds_toArray, List.set_cons_zero, List.set_cons_succ]
  refine wpAnyH_take (i := 8) (oi := _) (v := .int .i64 Q.2) rfl (by kernel_rfl) (by kernel_rfl) (by kernel_rfl) (fun _ _ _ h => h) (Or.inl ⟨by rfl, ?_⟩) hHeld ?_
  · intro wq hSw
    try dsimp only at hSw
    go_simp
  try simp only [Act.put, List.getElem_toArray, List.getElem_cons_succ, List.getElem_cons_zero, List.setIfInBounds_toArray, List.set_cons_zero, List.set_cons_succ]
  refine wpAnyH_done (by kernel_rfl) ?_ _
  clear hHeld
  have KF := hide (((((unhide K).setNew (p := ⟨w.heap.size + 2, 0, none⟩) (by simp) (.int .i64 Q.1.1)).setNew (p := ⟨w.heap.size + 2, 1, none⟩) (by simp) (.bool Q.1.2.1)).setNew (p := ⟨w.heap.size + 2, 2, none⟩) (by simp) (.int .i64 Q.1.2.2.1)).setNew (p := ⟨w.heap.size + 2, 3, none⟩) (by simp) (.int .i64 Q.1.2.2.2))
  clear K
  try go_wp2_with fail
  exact bodyPost_ret (v := .tuple #[.agg #[.int .i64 Q.1.1, .bool Q.1.2.1, .int .i64 Q.1.2.2.1, .int .i64 Q.1.2.2.2], .int .i64 Q.2]) (by simp [results, Tryz.results12, go_sem, q0, q1, q2, q3]) rfl ⟨rfl, unhide KF⟩

end Go.Proofs.YtckaecmkidplhaaGreatDoor

