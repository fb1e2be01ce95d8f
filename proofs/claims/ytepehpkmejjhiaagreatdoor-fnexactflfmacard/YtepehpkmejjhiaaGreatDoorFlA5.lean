/-
  Sums of floats: the model's l5add.
-/
import Derived.Test.YtepehpkmejjhiaaGreatDoorFlA3
import Derived.Deep.RegionHeld3
import Derived.Deep.DeepCutAuto
namespace Go.Proofs.YtepehpkmejjhiaaGreatDoor
open Go.RowKit
set_option linter.unusedVariables false
set_option maxRecDepth 8000
set_option linter.unusedSimpArgs false

theorem in_l5dy_m : ∀ (w : World) (args : Array Value), (callFunc 65 args).run Tryz.prog w = .ok (.enter 65 args) w := enters Tryz.func65 (by decide) (fun h => by cases h)

theorem in_l5round_m : ∀ (w : World) (args : Array Value), (callFunc 62 args).run Tryz.prog w = .ok (.enter 62 args) w := enters Tryz.func62 (by decide) (fun h => by cases h)

theorem nan_kept (w : World) : Calls Tryz.prog 71 #[] w fun r w' => r = .returned (flv 3 false 0 0) ∧ Kept 0 0 w w' :=
  (l5nan_any w).mono (fun e w' h => ⟨h.1, by rw [h.2]; exact (Kept.refl 0 0 w).alloc _⟩)
theorem wsg_fM (n : Bool) {m : Int} (h : 1 ≤ m) : wsg (fM 1 n m) = n := by unfold wsg fM; cases n <;> simp <;> omega
theorem dok_fl (F e : Int) (h1 : F.natAbs < 2 ^ 64) (h2 : -2900 ≤ e) (h3 : e ≤ 2900) : dokB (wsg F) (dlm F) (dex F e) = true := by
  have := ok_ans F e h1 h2 h3
  unfold ansDB at this
  simpa using this
theorem dlm_abs (F : Int) : (wval (wsg F) (dlm F)).natAbs = F.natAbs / 2 ^ tz F.natAbs := by rw [wval_abs (wn_dlm F).1.1]; unfold dlm; rw [limbs_val, Int.toNat_natCast]
theorem dlm_sgn (F : Int) : wsg (wval (wsg F) (dlm F)) = wsg F := wn_sign (wn_dlm F)

set_option maxHeartbeats 2000000 in
theorem addS_nought_inf (n1 : Bool) (n2 : Bool) (mode : Int) (hm0 : 0 ≤ mode) (hm4 : mode ≤ 4) (w : World) :
    Calls Tryz.prog 61 #[flv 0 n1 0 0, flv 2 n2 0 0, .int .i64 mode] w fun e' w' => e' = .returned (.tuple #[flq (addQ 0 n1 0 0 2 n2 0 0 mode).1, .int .i64 (addQ 0 n1 0 0 2 n2 0 0 mode).2]) ∧ Kept 0 0 w w' := by
  obtain ⟨Q, hQ⟩ : ∃ q, addQ 0 n1 0 0 2 n2 0 0 mode = q := ⟨_, rfl⟩
  rw [hQ]
  have HQ := hide hQ
  clear hQ
  have FQ : Hid (Q = ((2, n2, 0, 0), 0)) := by show _ = _; rw [← unhide HQ]; unfold addQ; simp
  obtain ⟨Wn, hn0⟩ : ∃ wz, wz = (((w.alloc (.cells #[.int .i64 0, .bool n1, .int .i64 0, .int .i64 0] 24)).alloc (.cells #[.int .i64 2, .bool n2, .int .i64 0, .int .i64 0] 24)).alloc (.cells #[.int .i64 0, .bool false, .int .i64 0, .int .i64 0] 24)) := ⟨_, rfl⟩
  have k0 : Kept 0 0 w Wn := by rw [hn0]; exact ((((Kept.refl 0 0 w).alloc _).alloc _).alloc _)
  have p0 : Wn.cell? ⟨w.heap.size, 0, none⟩ = some (.int .i64 0) := by rw [hn0]; exact old_cell _ (old_cell _ (new_cell2 _ _ _ _ _ _ (by simp) rfl))
  have p1 : Wn.cell? ⟨w.heap.size, 1, none⟩ = some (.bool n1) := by rw [hn0]; exact old_cell _ (old_cell _ (new_cell2 _ _ _ _ _ _ (by simp) rfl))
  have p2 : Wn.cell? ⟨w.heap.size, 2, none⟩ = some (.int .i64 0) := by rw [hn0]; exact old_cell _ (old_cell _ (new_cell2 _ _ _ _ _ _ (by simp) rfl))
  have p3 : Wn.cell? ⟨w.heap.size, 3, none⟩ = some (.int .i64 0) := by rw [hn0]; exact old_cell _ (old_cell _ (new_cell2 _ _ _ _ _ _ (by simp) rfl))
  have t0 : Wn.cell? ⟨w.heap.size + 1, 0, none⟩ = some (.int .i64 2) := by rw [hn0]; exact old_cell _ (new_cell2 _ _ _ _ _ _ (by simp) rfl)
  have t1 : Wn.cell? ⟨w.heap.size + 1, 1, none⟩ = some (.bool n2) := by rw [hn0]; exact old_cell _ (new_cell2 _ _ _ _ _ _ (by simp) rfl)
  have t2 : Wn.cell? ⟨w.heap.size + 1, 2, none⟩ = some (.int .i64 0) := by rw [hn0]; exact old_cell _ (new_cell2 _ _ _ _ _ _ (by simp) rfl)
  have t3 : Wn.cell? ⟨w.heap.size + 1, 3, none⟩ = some (.int .i64 0) := by rw [hn0]; exact old_cell _ (new_cell2 _ _ _ _ _ _ (by simp) rfl)
  obtain ⟨q0, q1, q2, q3, qf0, qf1, qf2, qf3⟩ := new4 hn0 (n := w.heap.size + 2) (by simp)
  have s0 : Wn.heap.size = w.heap.size + 3 := by rw [hn0]; exact by simp
  subst hn0
  have K := hide (k0)
  clear k0
  have S0 := hide s0
  clear s0
  go_enter Tryz.func61, Tryz.ntmps61
  have KF := hide ((((Kept.refl 0 0 w).alloc (.cells #[.int .i64 0, .bool n1, .int .i64 0, .int .i64 0] 24)).alloc (.cells #[.int .i64 2, .bool n2, .int .i64 0, .int .i64 0] 24)).alloc (.cells #[.int .i64 2, .bool n2, .int .i64 0, .int .i64 0] 24))
  clear K
  go_wp2_with fail
  exact bodyPost_ret (v := .tuple #[.agg #[.int .i64 2, .bool n2, .int .i64 0, .int .i64 0], .int .i64 0]) (by simp [results, Tryz.results61, go_sem, q0, q1, q2, q3]) rfl ⟨by rw [unhide FQ], unhide KF⟩

set_option maxHeartbeats 2000000 in
theorem addS_nought_nan (n1 : Bool) (mode : Int) (hm0 : 0 ≤ mode) (hm4 : mode ≤ 4) (w : World) :
    Calls Tryz.prog 61 #[flv 0 n1 0 0, flv 3 false 0 0, .int .i64 mode] w fun e' w' => e' = .returned (.tuple #[flq (addQ 0 n1 0 0 3 false 0 0 mode).1, .int .i64 (addQ 0 n1 0 0 3 false 0 0 mode).2]) ∧ Kept 0 0 w w' := by
  obtain ⟨Q, hQ⟩ : ∃ q, addQ 0 n1 0 0 3 false 0 0 mode = q := ⟨_, rfl⟩
  rw [hQ]
  have HQ := hide hQ
  clear hQ
  have FQ : Hid (Q = ((3, false, 0, 0), 0)) := by show _ = _; rw [← unhide HQ]; unfold addQ; simp
  obtain ⟨Wn, hn0⟩ : ∃ wz, wz = (((w.alloc (.cells #[.int .i64 0, .bool n1, .int .i64 0, .int .i64 0] 24)).alloc (.cells #[.int .i64 3, .bool false, .int .i64 0, .int .i64 0] 24)).alloc (.cells #[.int .i64 0, .bool false, .int .i64 0, .int .i64 0] 24)) := ⟨_, rfl⟩
  have k0 : Kept 0 0 w Wn := by rw [hn0]; exact ((((Kept.refl 0 0 w).alloc _).alloc _).alloc _)
  have p0 : Wn.cell? ⟨w.heap.size, 0, none⟩ = some (.int .i64 0) := by rw [hn0]; exact old_cell _ (old_cell _ (new_cell2 _ _ _ _ _ _ (by simp) rfl))
  have p1 : Wn.cell? ⟨w.heap.size, 1, none⟩ = some (.bool n1) := by rw [hn0]; exact old_cell _ (old_cell _ (new_cell2 _ _ _ _ _ _ (by simp) rfl))
  have p2 : Wn.cell? ⟨w.heap.size, 2, none⟩ = some (.int .i64 0) := by rw [hn0]; exact old_cell _ (old_cell _ (new_cell2 _ _ _ _ _ _ (by simp) rfl))
  have p3 : Wn.cell? ⟨w.heap.size, 3, none⟩ = some (.int .i64 0) := by rw [hn0]; exact old_cell _ (old_cell _ (new_cell2 _ _ _ _ _ _ (by simp) rfl))
  have t0 : Wn.cell? ⟨w.heap.size + 1, 0, none⟩ = some (.int .i64 3) := by rw [hn0]; exact old_cell _ (new_cell2 _ _ _ _ _ _ (by simp) rfl)
  have t1 : Wn.cell? ⟨w.heap.size + 1, 1, none⟩ = some (.bool false) := by rw [hn0]; exact old_cell _ (new_cell2 _ _ _ _ _ _ (by simp) rfl)
  have t2 : Wn.cell? ⟨w.heap.size + 1, 2, none⟩ = some (.int .i64 0) := by rw [hn0]; exact old_cell _ (new_cell2 _ _ _ _ _ _ (by simp) rfl)
  have t3 : Wn.cell? ⟨w.heap.size + 1, 3, none⟩ = some (.int .i64 0) := by rw [hn0]; exact old_cell _ (new_cell2 _ _ _ _ _ _ (by simp) rfl)
  obtain ⟨q0, q1, q2, q3, qf0, qf1, qf2, qf3⟩ := new4 hn0 (n := w.heap.size + 2) (by simp)
  have s0 : Wn.heap.size = w.heap.size + 3 := by rw [hn0]; exact by simp
  subst hn0
  have K := hide (k0)
  clear k0
  have S0 := hide s0
  clear s0
  go_enter Tryz.func61, Tryz.ntmps61
  go_wp2_with fail
  generalize (((w.alloc (.cells #[.int .i64 0, .bool n1, .int .i64 0, .int .i64 0] 24)).alloc (.cells #[.int .i64 3, .bool false, .int .i64 0, .int .i64 0] 24)).alloc (.cells #[.int .i64 0, .bool false, .int .i64 0, .int .i64 0] 24)) = W at *
  refine (nan_kept _).mono ?_
  rintro e w1 ⟨rfl, k1⟩
  revert qf0 qf1 qf2 qf3; refine k1.l4 q0 q1 q2 q3 ?_; intro qf0 qf1 qf2 qf3
  revert p0 p1 p2 p3 t0 t1 t2 t3 q0 q1 q2 q3; refine k1.m12 ?_; intro p0 p1 p2 p3 t0 t1 t2 t3 q0 q1 q2 q3
  replace K := hide ((unhide K).trans k1)
  have z2 := k1.size
  clear k1
  have KF := hide (((((unhide K).setNew (p := ⟨w.heap.size + 2, 0, none⟩) (by simp) (.int .i64 3)).setNew (p := ⟨w.heap.size + 2, 1, none⟩) (by simp) (.bool false)).setNew (p := ⟨w.heap.size + 2, 2, none⟩) (by simp) (.int .i64 0)).setNew (p := ⟨w.heap.size + 2, 3, none⟩) (by simp) (.int .i64 0))
  clear K
  try go_wp2_with fail
  exact bodyPost_ret (v := .tuple #[.agg #[.int .i64 3, .bool false, .int .i64 0, .int .i64 0], .int .i64 0]) (by simp [results, Tryz.results61, go_sem, q0, q1, q2, q3]) rfl ⟨by rw [unhide FQ], unhide KF⟩

set_option maxHeartbeats 2000000 in
theorem addS_inf_num (n1 : Bool) (n2 : Bool) (m2 e2 : Int) (a12 : -1074 ≤ e2) (a22 : e2 ≤ 971) (a32 : 1 ≤ m2) (a42 : m2 ≤ 9007199254740991) (mode : Int) (hm0 : 0 ≤ mode) (hm4 : mode ≤ 4) (w : World) :
    Calls Tryz.prog 61 #[flv 2 n1 0 0, flv 1 n2 m2 e2, .int .i64 mode] w fun e' w' => e' = .returned (.tuple #[flq (addQ 2 n1 0 0 1 n2 m2 e2 mode).1, .int .i64 (addQ 2 n1 0 0 1 n2 m2 e2 mode).2]) ∧ Kept 0 0 w w' := by
  obtain ⟨Q, hQ⟩ : ∃ q, addQ 2 n1 0 0 1 n2 m2 e2 mode = q := ⟨_, rfl⟩
  rw [hQ]
  have HQ := hide hQ
  clear hQ
  have FQ : Hid (Q = ((2, n1, 0, 0), 0)) := by show _ = _; rw [← unhide HQ]; unfold addQ; simp
  obtain ⟨Wn, hn0⟩ : ∃ wz, wz = (((w.alloc (.cells #[.int .i64 2, .bool n1, .int .i64 0, .int .i64 0] 24)).alloc (.cells #[.int .i64 1, .bool n2, .int .i64 m2, .int .i64 e2] 24)).alloc (.cells #[.int .i64 0, .bool false, .int .i64 0, .int .i64 0] 24)) := ⟨_, rfl⟩
  have k0 : Kept 0 0 w Wn := by rw [hn0]; exact ((((Kept.refl 0 0 w).alloc _).alloc _).alloc _)
  have p0 : Wn.cell? ⟨w.heap.size, 0, none⟩ = some (.int .i64 2) := by rw [hn0]; exact old_cell _ (old_cell _ (new_cell2 _ _ _ _ _ _ (by simp) rfl))
  have p1 : Wn.cell? ⟨w.heap.size, 1, none⟩ = some (.bool n1) := by rw [hn0]; exact old_cell _ (old_cell _ (new_cell2 _ _ _ _ _ _ (by simp) rfl))
  have p2 : Wn.cell? ⟨w.heap.size, 2, none⟩ = some (.int .i64 0) := by rw [hn0]; exact old_cell _ (old_cell _ (new_cell2 _ _ _ _ _ _ (by simp) rfl))
  have p3 : Wn.cell? ⟨w.heap.size, 3, none⟩ = some (.int .i64 0) := by rw [hn0]; exact old_cell _ (old_cell _ (new_cell2 _ _ _ _ _ _ (by simp) rfl))
  have t0 : Wn.cell? ⟨w.heap.size + 1, 0, none⟩ = some (.int .i64 1) := by rw [hn0]; exact old_cell _ (new_cell2 _ _ _ _ _ _ (by simp) rfl)
  have t1 : Wn.cell? ⟨w.heap.size + 1, 1, none⟩ = some (.bool n2) := by rw [hn0]; exact old_cell _ (new_cell2 _ _ _ _ _ _ (by simp) rfl)
  have t2 : Wn.cell? ⟨w.heap.size + 1, 2, none⟩ = some (.int .i64 m2) := by rw [hn0]; exact old_cell _ (new_cell2 _ _ _ _ _ _ (by simp) rfl)
  have t3 : Wn.cell? ⟨w.heap.size + 1, 3, none⟩ = some (.int .i64 e2) := by rw [hn0]; exact old_cell _ (new_cell2 _ _ _ _ _ _ (by simp) rfl)
  obtain ⟨q0, q1, q2, q3, qf0, qf1, qf2, qf3⟩ := new4 hn0 (n := w.heap.size + 2) (by simp)
  have s0 : Wn.heap.size = w.heap.size + 3 := by rw [hn0]; exact by simp
  subst hn0
  have K := hide (k0)
  clear k0
  have S0 := hide s0
  clear s0
  go_enter Tryz.func61, Tryz.ntmps61
  have KF := hide ((((Kept.refl 0 0 w).alloc (.cells #[.int .i64 2, .bool n1, .int .i64 0, .int .i64 0] 24)).alloc (.cells #[.int .i64 1, .bool n2, .int .i64 m2, .int .i64 e2] 24)).alloc (.cells #[.int .i64 2, .bool n1, .int .i64 0, .int .i64 0] 24))
  clear K
  go_wp2_with fail
  exact bodyPost_ret (v := .tuple #[.agg #[.int .i64 2, .bool n1, .int .i64 0, .int .i64 0], .int .i64 0]) (by simp [results, Tryz.results61, go_sem, q0, q1, q2, q3]) rfl ⟨by rw [unhide FQ], unhide KF⟩

set_option maxHeartbeats 2000000 in
theorem addS_inf_nought (n1 : Bool) (n2 : Bool) (mode : Int) (hm0 : 0 ≤ mode) (hm4 : mode ≤ 4) (w : World) :
    Calls Tryz.prog 61 #[flv 2 n1 0 0, flv 0 n2 0 0, .int .i64 mode] w fun e' w' => e' = .returned (.tuple #[flq (addQ 2 n1 0 0 0 n2 0 0 mode).1, .int .i64 (addQ 2 n1 0 0 0 n2 0 0 mode).2]) ∧ Kept 0 0 w w' := by
  obtain ⟨Q, hQ⟩ : ∃ q, addQ 2 n1 0 0 0 n2 0 0 mode = q := ⟨_, rfl⟩
  rw [hQ]
  have HQ := hide hQ
  clear hQ
  have FQ : Hid (Q = ((2, n1, 0, 0), 0)) := by show _ = _; rw [← unhide HQ]; unfold addQ; simp
  obtain ⟨Wn, hn0⟩ : ∃ wz, wz = (((w.alloc (.cells #[.int .i64 2, .bool n1, .int .i64 0, .int .i64 0] 24)).alloc (.cells #[.int .i64 0, .bool n2, .int .i64 0, .int .i64 0] 24)).alloc (.cells #[.int .i64 0, .bool false, .int .i64 0, .int .i64 0] 24)) := ⟨_, rfl⟩
  have k0 : Kept 0 0 w Wn := by rw [hn0]; exact ((((Kept.refl 0 0 w).alloc _).alloc _).alloc _)
  have p0 : Wn.cell? ⟨w.heap.size, 0, none⟩ = some (.int .i64 2) := by rw [hn0]; exact old_cell _ (old_cell _ (new_cell2 _ _ _ _ _ _ (by simp) rfl))
  have p1 : Wn.cell? ⟨w.heap.size, 1, none⟩ = some (.bool n1) := by rw [hn0]; exact old_cell _ (old_cell _ (new_cell2 _ _ _ _ _ _ (by simp) rfl))
  have p2 : Wn.cell? ⟨w.heap.size, 2, none⟩ = some (.int .i64 0) := by rw [hn0]; exact old_cell _ (old_cell _ (new_cell2 _ _ _ _ _ _ (by simp) rfl))
  have p3 : Wn.cell? ⟨w.heap.size, 3, none⟩ = some (.int .i64 0) := by rw [hn0]; exact old_cell _ (old_cell _ (new_cell2 _ _ _ _ _ _ (by simp) rfl))
  have t0 : Wn.cell? ⟨w.heap.size + 1, 0, none⟩ = some (.int .i64 0) := by rw [hn0]; exact old_cell _ (new_cell2 _ _ _ _ _ _ (by simp) rfl)
  have t1 : Wn.cell? ⟨w.heap.size + 1, 1, none⟩ = some (.bool n2) := by rw [hn0]; exact old_cell _ (new_cell2 _ _ _ _ _ _ (by simp) rfl)
  have t2 : Wn.cell? ⟨w.heap.size + 1, 2, none⟩ = some (.int .i64 0) := by rw [hn0]; exact old_cell _ (new_cell2 _ _ _ _ _ _ (by simp) rfl)
  have t3 : Wn.cell? ⟨w.heap.size + 1, 3, none⟩ = some (.int .i64 0) := by rw [hn0]; exact old_cell _ (new_cell2 _ _ _ _ _ _ (by simp) rfl)
  obtain ⟨q0, q1, q2, q3, qf0, qf1, qf2, qf3⟩ := new4 hn0 (n := w.heap.size + 2) (by simp)
  have s0 : Wn.heap.size = w.heap.size + 3 := by rw [hn0]; exact by simp
  subst hn0
  have K := hide (k0)
  clear k0
  have S0 := hide s0
  clear s0
  go_enter Tryz.func61, Tryz.ntmps61
  have KF := hide ((((Kept.refl 0 0 w).alloc (.cells #[.int .i64 2, .bool n1, .int .i64 0, .int .i64 0] 24)).alloc (.cells #[.int .i64 0, .bool n2, .int .i64 0, .int .i64 0] 24)).alloc (.cells #[.int .i64 2, .bool n1, .int .i64 0, .int .i64 0] 24))
  clear K
  go_wp2_with fail
  exact bodyPost_ret (v := .tuple #[.agg #[.int .i64 2, .bool n1, .int .i64 0, .int .i64 0], .int .i64 0]) (by simp [results, Tryz.results61, go_sem, q0, q1, q2, q3]) rfl ⟨by rw [unhide FQ], unhide KF⟩

set_option maxHeartbeats 2000000 in
theorem addS_inf_inf_true_true (mode : Int) (hm0 : 0 ≤ mode) (hm4 : mode ≤ 4) (w : World) :
    Calls Tryz.prog 61 #[flv 2 true 0 0, flv 2 true 0 0, .int .i64 mode] w fun e' w' => e' = .returned (.tuple #[flq (addQ 2 true 0 0 2 true 0 0 mode).1, .int .i64 (addQ 2 true 0 0 2 true 0 0 mode).2]) ∧ Kept 0 0 w w' := by
  obtain ⟨Q, hQ⟩ : ∃ q, addQ 2 true 0 0 2 true 0 0 mode = q := ⟨_, rfl⟩
  rw [hQ]
  have HQ := hide hQ
  clear hQ
  have FQ : Hid (Q = ((2, true, 0, 0), 0)) := by show _ = _; rw [← unhide HQ]; unfold addQ; simp
  obtain ⟨Wn, hn0⟩ : ∃ wz, wz = (((w.alloc (.cells #[.int .i64 2, .bool true, .int .i64 0, .int .i64 0] 24)).alloc (.cells #[.int .i64 2, .bool true, .int .i64 0, .int .i64 0] 24)).alloc (.cells #[.int .i64 0, .bool false, .int .i64 0, .int .i64 0] 24)) := ⟨_, rfl⟩
  have k0 : Kept 0 0 w Wn := by rw [hn0]; exact ((((Kept.refl 0 0 w).alloc _).alloc _).alloc _)
  have p0 : Wn.cell? ⟨w.heap.size, 0, none⟩ = some (.int .i64 2) := by rw [hn0]; exact old_cell _ (old_cell _ (new_cell2 _ _ _ _ _ _ (by simp) rfl))
  have p1 : Wn.cell? ⟨w.heap.size, 1, none⟩ = some (.bool true) := by rw [hn0]; exact old_cell _ (old_cell _ (new_cell2 _ _ _ _ _ _ (by simp) rfl))
  have p2 : Wn.cell? ⟨w.heap.size, 2, none⟩ = some (.int .i64 0) := by rw [hn0]; exact old_cell _ (old_cell _ (new_cell2 _ _ _ _ _ _ (by simp) rfl))
  have p3 : Wn.cell? ⟨w.heap.size, 3, none⟩ = some (.int .i64 0) := by rw [hn0]; exact old_cell _ (old_cell _ (new_cell2 _ _ _ _ _ _ (by simp) rfl))
  have t0 : Wn.cell? ⟨w.heap.size + 1, 0, none⟩ = some (.int .i64 2) := by rw [hn0]; exact old_cell _ (new_cell2 _ _ _ _ _ _ (by simp) rfl)
  have t1 : Wn.cell? ⟨w.heap.size + 1, 1, none⟩ = some (.bool true) := by rw [hn0]; exact old_cell _ (new_cell2 _ _ _ _ _ _ (by simp) rfl)
  have t2 : Wn.cell? ⟨w.heap.size + 1, 2, none⟩ = some (.int .i64 0) := by rw [hn0]; exact old_cell _ (new_cell2 _ _ _ _ _ _ (by simp) rfl)
  have t3 : Wn.cell? ⟨w.heap.size + 1, 3, none⟩ = some (.int .i64 0) := by rw [hn0]; exact old_cell _ (new_cell2 _ _ _ _ _ _ (by simp) rfl)
  obtain ⟨q0, q1, q2, q3, qf0, qf1, qf2, qf3⟩ := new4 hn0 (n := w.heap.size + 2) (by simp)
  have s0 : Wn.heap.size = w.heap.size + 3 := by rw [hn0]; exact by simp
  subst hn0
  have K := hide (k0)
  clear k0
  have S0 := hide s0
  clear s0
  go_enter Tryz.func61, Tryz.ntmps61
  have KF := hide ((((Kept.refl 0 0 w).alloc (.cells #[.int .i64 2, .bool true, .int .i64 0, .int .i64 0] 24)).alloc (.cells #[.int .i64 2, .bool true, .int .i64 0, .int .i64 0] 24)).alloc (.cells #[.int .i64 2, .bool true, .int .i64 0, .int .i64 0] 24))
  clear K
  go_wp2_with fail
  exact bodyPost_ret (v := .tuple #[.agg #[.int .i64 2, .bool true, .int .i64 0, .int .i64 0], .int .i64 0]) (by simp [results, Tryz.results61, go_sem, q0, q1, q2, q3]) rfl ⟨by rw [unhide FQ], unhide KF⟩

set_option maxHeartbeats 2000000 in
theorem addS_inf_inf_true_false (mode : Int) (hm0 : 0 ≤ mode) (hm4 : mode ≤ 4) (w : World) :
    Calls Tryz.prog 61 #[flv 2 true 0 0, flv 2 false 0 0, .int .i64 mode] w fun e' w' => e' = .returned (.tuple #[flq (addQ 2 true 0 0 2 false 0 0 mode).1, .int .i64 (addQ 2 true 0 0 2 false 0 0 mode).2]) ∧ Kept 0 0 w w' := by
  obtain ⟨Q, hQ⟩ : ∃ q, addQ 2 true 0 0 2 false 0 0 mode = q := ⟨_, rfl⟩
  rw [hQ]
  have HQ := hide hQ
  clear hQ
  have FQ : Hid (Q = ((3, false, 0, 0), 16)) := by show _ = _; rw [← unhide HQ]; unfold addQ; simp
  obtain ⟨Wn, hn0⟩ : ∃ wz, wz = (((w.alloc (.cells #[.int .i64 2, .bool true, .int .i64 0, .int .i64 0] 24)).alloc (.cells #[.int .i64 2, .bool false, .int .i64 0, .int .i64 0] 24)).alloc (.cells #[.int .i64 0, .bool false, .int .i64 0, .int .i64 0] 24)) := ⟨_, rfl⟩
  have k0 : Kept 0 0 w Wn := by rw [hn0]; exact ((((Kept.refl 0 0 w).alloc _).alloc _).alloc _)
  have p0 : Wn.cell? ⟨w.heap.size, 0, none⟩ = some (.int .i64 2) := by rw [hn0]; exact old_cell _ (old_cell _ (new_cell2 _ _ _ _ _ _ (by simp) rfl))
  have p1 : Wn.cell? ⟨w.heap.size, 1, none⟩ = some (.bool true) := by rw [hn0]; exact old_cell _ (old_cell _ (new_cell2 _ _ _ _ _ _ (by simp) rfl))
  have p2 : Wn.cell? ⟨w.heap.size, 2, none⟩ = some (.int .i64 0) := by rw [hn0]; exact old_cell _ (old_cell _ (new_cell2 _ _ _ _ _ _ (by simp) rfl))
  have p3 : Wn.cell? ⟨w.heap.size, 3, none⟩ = some (.int .i64 0) := by rw [hn0]; exact old_cell _ (old_cell _ (new_cell2 _ _ _ _ _ _ (by simp) rfl))
  have t0 : Wn.cell? ⟨w.heap.size + 1, 0, none⟩ = some (.int .i64 2) := by rw [hn0]; exact old_cell _ (new_cell2 _ _ _ _ _ _ (by simp) rfl)
  have t1 : Wn.cell? ⟨w.heap.size + 1, 1, none⟩ = some (.bool false) := by rw [hn0]; exact old_cell _ (new_cell2 _ _ _ _ _ _ (by simp) rfl)
  have t2 : Wn.cell? ⟨w.heap.size + 1, 2, none⟩ = some (.int .i64 0) := by rw [hn0]; exact old_cell _ (new_cell2 _ _ _ _ _ _ (by simp) rfl)
  have t3 : Wn.cell? ⟨w.heap.size + 1, 3, none⟩ = some (.int .i64 0) := by rw [hn0]; exact old_cell _ (new_cell2 _ _ _ _ _ _ (by simp) rfl)
  obtain ⟨q0, q1, q2, q3, qf0, qf1, qf2, qf3⟩ := new4 hn0 (n := w.heap.size + 2) (by simp)
  have s0 : Wn.heap.size = w.heap.size + 3 := by rw [hn0]; exact by simp
  subst hn0
  have K := hide (k0)
  clear k0
  have S0 := hide s0
  clear s0
  go_enter Tryz.func61, Tryz.ntmps61
  go_wp2_with fail
  generalize (((w.alloc (.cells #[.int .i64 2, .bool true, .int .i64 0, .int .i64 0] 24)).alloc (.cells #[.int .i64 2, .bool false, .int .i64 0, .int .i64 0] 24)).alloc (.cells #[.int .i64 0, .bool false, .int .i64 0, .int .i64 0] 24)) = W at *
  refine (bad_spec _).mono ?_
  rintro e w1 ⟨rfl, k1⟩
  revert qf0 qf1 qf2 qf3; refine k1.l4 q0 q1 q2 q3 ?_; intro qf0 qf1 qf2 qf3
  revert p0 p1 p2 p3 t0 t1 t2 t3 q0 q1 q2 q3; refine k1.m12 ?_; intro p0 p1 p2 p3 t0 t1 t2 t3 q0 q1 q2 q3
  replace K := hide ((unhide K).trans k1)
  have z2 := k1.size
  clear k1
  have KF := hide (((((unhide K).setNew (p := ⟨w.heap.size + 2, 0, none⟩) (by simp) (.int .i64 3)).setNew (p := ⟨w.heap.size + 2, 1, none⟩) (by simp) (.bool false)).setNew (p := ⟨w.heap.size + 2, 2, none⟩) (by simp) (.int .i64 0)).setNew (p := ⟨w.heap.size + 2, 3, none⟩) (by simp) (.int .i64 0))
  clear K
  try go_wp2_with fail
  exact bodyPost_ret (v := .tuple #[.agg #[.int .i64 3, .bool false, .int .i64 0, .int .i64 0], .int .i64 16]) (by simp [results, Tryz.results61, go_sem, q0, q1, q2, q3]) rfl ⟨by rw [unhide FQ], unhide KF⟩

set_option maxHeartbeats 2000000 in
theorem addS_inf_inf_false_true (mode : Int) (hm0 : 0 ≤ mode) (hm4 : mode ≤ 4) (w : World) :
    Calls Tryz.prog 61 #[flv 2 false 0 0, flv 2 true 0 0, .int .i64 mode] w fun e' w' => e' = .returned (.tuple #[flq (addQ 2 false 0 0 2 true 0 0 mode).1, .int .i64 (addQ 2 false 0 0 2 true 0 0 mode).2]) ∧ Kept 0 0 w w' := by
  obtain ⟨Q, hQ⟩ : ∃ q, addQ 2 false 0 0 2 true 0 0 mode = q := ⟨_, rfl⟩
  rw [hQ]
  have HQ := hide hQ
  clear hQ
  have FQ : Hid (Q = ((3, false, 0, 0), 16)) := by show _ = _; rw [← unhide HQ]; unfold addQ; simp
  obtain ⟨Wn, hn0⟩ : ∃ wz, wz = (((w.alloc (.cells #[.int .i64 2, .bool false, .int .i64 0, .int .i64 0] 24)).alloc (.cells #[.int .i64 2, .bool true, .int .i64 0, .int .i64 0] 24)).alloc (.cells #[.int .i64 0, .bool false, .int .i64 0, .int .i64 0] 24)) := ⟨_, rfl⟩
  have k0 : Kept 0 0 w Wn := by rw [hn0]; exact ((((Kept.refl 0 0 w).alloc _).alloc _).alloc _)
  have p0 : Wn.cell? ⟨w.heap.size, 0, none⟩ = some (.int .i64 2) := by rw [hn0]; exact old_cell _ (old_cell _ (new_cell2 _ _ _ _ _ _ (by simp) rfl))
  have p1 : Wn.cell? ⟨w.heap.size, 1, none⟩ = some (.bool false) := by rw [hn0]; exact old_cell _ (old_cell _ (new_cell2 _ _ _ _ _ _ (by simp) rfl))
  have p2 : Wn.cell? ⟨w.heap.size, 2, none⟩ = some (.int .i64 0) := by rw [hn0]; exact old_cell _ (old_cell _ (new_cell2 _ _ _ _ _ _ (by simp) rfl))
  have p3 : Wn.cell? ⟨w.heap.size, 3, none⟩ = some (.int .i64 0) := by rw [hn0]; exact old_cell _ (old_cell _ (new_cell2 _ _ _ _ _ _ (by simp) rfl))
  have t0 : Wn.cell? ⟨w.heap.size + 1, 0, none⟩ = some (.int .i64 2) := by rw [hn0]; exact old_cell _ (new_cell2 _ _ _ _ _ _ (by simp) rfl)
  have t1 : Wn.cell? ⟨w.heap.size + 1, 1, none⟩ = some (.bool true) := by rw [hn0]; exact old_cell _ (new_cell2 _ _ _ _ _ _ (by simp) rfl)
  have t2 : Wn.cell? ⟨w.heap.size + 1, 2, none⟩ = some (.int .i64 0) := by rw [hn0]; exact old_cell _ (new_cell2 _ _ _ _ _ _ (by simp) rfl)
  have t3 : Wn.cell? ⟨w.heap.size + 1, 3, none⟩ = some (.int .i64 0) := by rw [hn0]; exact old_cell _ (new_cell2 _ _ _ _ _ _ (by simp) rfl)
  obtain ⟨q0, q1, q2, q3, qf0, qf1, qf2, qf3⟩ := new4 hn0 (n := w.heap.size + 2) (by simp)
  have s0 : Wn.heap.size = w.heap.size + 3 := by rw [hn0]; exact by simp
  subst hn0
  have K := hide (k0)
  clear k0
  have S0 := hide s0
  clear s0
  go_enter Tryz.func61, Tryz.ntmps61
  go_wp2_with fail
  generalize (((w.alloc (.cells #[.int .i64 2, .bool false, .int .i64 0, .int .i64 0] 24)).alloc (.cells #[.int .i64 2, .bool true, .int .i64 0, .int .i64 0] 24)).alloc (.cells #[.int .i64 0, .bool false, .int .i64 0, .int .i64 0] 24)) = W at *
  refine (bad_spec _).mono ?_
  rintro e w1 ⟨rfl, k1⟩
  revert qf0 qf1 qf2 qf3; refine k1.l4 q0 q1 q2 q3 ?_; intro qf0 qf1 qf2 qf3
  revert p0 p1 p2 p3 t0 t1 t2 t3 q0 q1 q2 q3; refine k1.m12 ?_; intro p0 p1 p2 p3 t0 t1 t2 t3 q0 q1 q2 q3
  replace K := hide ((unhide K).trans k1)
  have z2 := k1.size
  clear k1
  have KF := hide (((((unhide K).setNew (p := ⟨w.heap.size + 2, 0, none⟩) (by simp) (.int .i64 3)).setNew (p := ⟨w.heap.size + 2, 1, none⟩) (by simp) (.bool false)).setNew (p := ⟨w.heap.size + 2, 2, none⟩) (by simp) (.int .i64 0)).setNew (p := ⟨w.heap.size + 2, 3, none⟩) (by simp) (.int .i64 0))
  clear K
  try go_wp2_with fail
  exact bodyPost_ret (v := .tuple #[.agg #[.int .i64 3, .bool false, .int .i64 0, .int .i64 0], .int .i64 16]) (by simp [results, Tryz.results61, go_sem, q0, q1, q2, q3]) rfl ⟨by rw [unhide FQ], unhide KF⟩

set_option maxHeartbeats 2000000 in
theorem addS_inf_inf_false_false (mode : Int) (hm0 : 0 ≤ mode) (hm4 : mode ≤ 4) (w : World) :
    Calls Tryz.prog 61 #[flv 2 false 0 0, flv 2 false 0 0, .int .i64 mode] w fun e' w' => e' = .returned (.tuple #[flq (addQ 2 false 0 0 2 false 0 0 mode).1, .int .i64 (addQ 2 false 0 0 2 false 0 0 mode).2]) ∧ Kept 0 0 w w' := by
  obtain ⟨Q, hQ⟩ : ∃ q, addQ 2 false 0 0 2 false 0 0 mode = q := ⟨_, rfl⟩
  rw [hQ]
  have HQ := hide hQ
  clear hQ
  have FQ : Hid (Q = ((2, false, 0, 0), 0)) := by show _ = _; rw [← unhide HQ]; unfold addQ; simp
  obtain ⟨Wn, hn0⟩ : ∃ wz, wz = (((w.alloc (.cells #[.int .i64 2, .bool false, .int .i64 0, .int .i64 0] 24)).alloc (.cells #[.int .i64 2, .bool false, .int .i64 0, .int .i64 0] 24)).alloc (.cells #[.int .i64 0, .bool false, .int .i64 0, .int .i64 0] 24)) := ⟨_, rfl⟩
  have k0 : Kept 0 0 w Wn := by rw [hn0]; exact ((((Kept.refl 0 0 w).alloc _).alloc _).alloc _)
  have p0 : Wn.cell? ⟨w.heap.size, 0, none⟩ = some (.int .i64 2) := by rw [hn0]; exact old_cell _ (old_cell _ (new_cell2 _ _ _ _ _ _ (by simp) rfl))
  have p1 : Wn.cell? ⟨w.heap.size, 1, none⟩ = some (.bool false) := by rw [hn0]; exact old_cell _ (old_cell _ (new_cell2 _ _ _ _ _ _ (by simp) rfl))
  have p2 : Wn.cell? ⟨w.heap.size, 2, none⟩ = some (.int .i64 0) := by rw [hn0]; exact old_cell _ (old_cell _ (new_cell2 _ _ _ _ _ _ (by simp) rfl))
  have p3 : Wn.cell? ⟨w.heap.size, 3, none⟩ = some (.int .i64 0) := by rw [hn0]; exact old_cell _ (old_cell _ (new_cell2 _ _ _ _ _ _ (by simp) rfl))
  have t0 : Wn.cell? ⟨w.heap.size + 1, 0, none⟩ = some (.int .i64 2) := by rw [hn0]; exact old_cell _ (new_cell2 _ _ _ _ _ _ (by simp) rfl)
  have t1 : Wn.cell? ⟨w.heap.size + 1, 1, none⟩ = some (.bool false) := by rw [hn0]; exact old_cell _ (new_cell2 _ _ _ _ _ _ (by simp) rfl)
  have t2 : Wn.cell? ⟨w.heap.size + 1, 2, none⟩ = some (.int .i64 0) := by rw [hn0]; exact old_cell _ (new_cell2 _ _ _ _ _ _ (by simp) rfl)
  have t3 : Wn.cell? ⟨w.heap.size + 1, 3, none⟩ = some (.int .i64 0) := by rw [hn0]; exact old_cell _ (new_cell2 _ _ _ _ _ _ (by simp) rfl)
  obtain ⟨q0, q1, q2, q3, qf0, qf1, qf2, qf3⟩ := new4 hn0 (n := w.heap.size + 2) (by simp)
  have s0 : Wn.heap.size = w.heap.size + 3 := by rw [hn0]; exact by simp
  subst hn0
  have K := hide (k0)
  clear k0
  have S0 := hide s0
  clear s0
  go_enter Tryz.func61, Tryz.ntmps61
  have KF := hide ((((Kept.refl 0 0 w).alloc (.cells #[.int .i64 2, .bool false, .int .i64 0, .int .i64 0] 24)).alloc (.cells #[.int .i64 2, .bool false, .int .i64 0, .int .i64 0] 24)).alloc (.cells #[.int .i64 2, .bool false, .int .i64 0, .int .i64 0] 24))
  clear K
  go_wp2_with fail
  exact bodyPost_ret (v := .tuple #[.agg #[.int .i64 2, .bool false, .int .i64 0, .int .i64 0], .int .i64 0]) (by simp [results, Tryz.results61, go_sem, q0, q1, q2, q3]) rfl ⟨by rw [unhide FQ], unhide KF⟩

set_option maxHeartbeats 2000000 in
theorem addS_inf_nan (n1 : Bool) (mode : Int) (hm0 : 0 ≤ mode) (hm4 : mode ≤ 4) (w : World) :
    Calls Tryz.prog 61 #[flv 2 n1 0 0, flv 3 false 0 0, .int .i64 mode] w fun e' w' => e' = .returned (.tuple #[flq (addQ 2 n1 0 0 3 false 0 0 mode).1, .int .i64 (addQ 2 n1 0 0 3 false 0 0 mode).2]) ∧ Kept 0 0 w w' := by
  obtain ⟨Q, hQ⟩ : ∃ q, addQ 2 n1 0 0 3 false 0 0 mode = q := ⟨_, rfl⟩
  rw [hQ]
  have HQ := hide hQ
  clear hQ
  have FQ : Hid (Q = ((3, false, 0, 0), 0)) := by show _ = _; rw [← unhide HQ]; unfold addQ; simp
  obtain ⟨Wn, hn0⟩ : ∃ wz, wz = (((w.alloc (.cells #[.int .i64 2, .bool n1, .int .i64 0, .int .i64 0] 24)).alloc (.cells #[.int .i64 3, .bool false, .int .i64 0, .int .i64 0] 24)).alloc (.cells #[.int .i64 0, .bool false, .int .i64 0, .int .i64 0] 24)) := ⟨_, rfl⟩
  have k0 : Kept 0 0 w Wn := by rw [hn0]; exact ((((Kept.refl 0 0 w).alloc _).alloc _).alloc _)
  have p0 : Wn.cell? ⟨w.heap.size, 0, none⟩ = some (.int .i64 2) := by rw [hn0]; exact old_cell _ (old_cell _ (new_cell2 _ _ _ _ _ _ (by simp) rfl))
  have p1 : Wn.cell? ⟨w.heap.size, 1, none⟩ = some (.bool n1) := by rw [hn0]; exact old_cell _ (old_cell _ (new_cell2 _ _ _ _ _ _ (by simp) rfl))
  have p2 : Wn.cell? ⟨w.heap.size, 2, none⟩ = some (.int .i64 0) := by rw [hn0]; exact old_cell _ (old_cell _ (new_cell2 _ _ _ _ _ _ (by simp) rfl))
  have p3 : Wn.cell? ⟨w.heap.size, 3, none⟩ = some (.int .i64 0) := by rw [hn0]; exact old_cell _ (old_cell _ (new_cell2 _ _ _ _ _ _ (by simp) rfl))
  have t0 : Wn.cell? ⟨w.heap.size + 1, 0, none⟩ = some (.int .i64 3) := by rw [hn0]; exact old_cell _ (new_cell2 _ _ _ _ _ _ (by simp) rfl)
  have t1 : Wn.cell? ⟨w.heap.size + 1, 1, none⟩ = some (.bool false) := by rw [hn0]; exact old_cell _ (new_cell2 _ _ _ _ _ _ (by simp) rfl)
  have t2 : Wn.cell? ⟨w.heap.size + 1, 2, none⟩ = some (.int .i64 0) := by rw [hn0]; exact old_cell _ (new_cell2 _ _ _ _ _ _ (by simp) rfl)
  have t3 : Wn.cell? ⟨w.heap.size + 1, 3, none⟩ = some (.int .i64 0) := by rw [hn0]; exact old_cell _ (new_cell2 _ _ _ _ _ _ (by simp) rfl)
  obtain ⟨q0, q1, q2, q3, qf0, qf1, qf2, qf3⟩ := new4 hn0 (n := w.heap.size + 2) (by simp)
  have s0 : Wn.heap.size = w.heap.size + 3 := by rw [hn0]; exact by simp
  subst hn0
  have K := hide (k0)
  clear k0
  have S0 := hide s0
  clear s0
  go_enter Tryz.func61, Tryz.ntmps61
  go_wp2_with fail
  generalize (((w.alloc (.cells #[.int .i64 2, .bool n1, .int .i64 0, .int .i64 0] 24)).alloc (.cells #[.int .i64 3, .bool false, .int .i64 0, .int .i64 0] 24)).alloc (.cells #[.int .i64 0, .bool false, .int .i64 0, .int .i64 0] 24)) = W at *
  refine (nan_kept _).mono ?_
  rintro e w1 ⟨rfl, k1⟩
  revert qf0 qf1 qf2 qf3; refine k1.l4 q0 q1 q2 q3 ?_; intro qf0 qf1 qf2 qf3
  revert p0 p1 p2 p3 t0 t1 t2 t3 q0 q1 q2 q3; refine k1.m12 ?_; intro p0 p1 p2 p3 t0 t1 t2 t3 q0 q1 q2 q3
  replace K := hide ((unhide K).trans k1)
  have z2 := k1.size
  clear k1
  have KF := hide (((((unhide K).setNew (p := ⟨w.heap.size + 2, 0, none⟩) (by simp) (.int .i64 3)).setNew (p := ⟨w.heap.size + 2, 1, none⟩) (by simp) (.bool false)).setNew (p := ⟨w.heap.size + 2, 2, none⟩) (by simp) (.int .i64 0)).setNew (p := ⟨w.heap.size + 2, 3, none⟩) (by simp) (.int .i64 0))
  clear K
  try go_wp2_with fail
  exact bodyPost_ret (v := .tuple #[.agg #[.int .i64 3, .bool false, .int .i64 0, .int .i64 0], .int .i64 0]) (by simp [results, Tryz.results61, go_sem, q0, q1, q2, q3]) rfl ⟨by rw [unhide FQ], unhide KF⟩

set_option maxHeartbeats 2000000 in
theorem addS_nan_num (n2 : Bool) (m2 e2 : Int) (a12 : -1074 ≤ e2) (a22 : e2 ≤ 971) (a32 : 1 ≤ m2) (a42 : m2 ≤ 9007199254740991) (mode : Int) (hm0 : 0 ≤ mode) (hm4 : mode ≤ 4) (w : World) :
    Calls Tryz.prog 61 #[flv 3 false 0 0, flv 1 n2 m2 e2, .int .i64 mode] w fun e' w' => e' = .returned (.tuple #[flq (addQ 3 false 0 0 1 n2 m2 e2 mode).1, .int .i64 (addQ 3 false 0 0 1 n2 m2 e2 mode).2]) ∧ Kept 0 0 w w' := by
  obtain ⟨Q, hQ⟩ : ∃ q, addQ 3 false 0 0 1 n2 m2 e2 mode = q := ⟨_, rfl⟩
  rw [hQ]
  have HQ := hide hQ
  clear hQ
  have FQ : Hid (Q = ((3, false, 0, 0), 0)) := by show _ = _; rw [← unhide HQ]; unfold addQ; simp
  obtain ⟨Wn, hn0⟩ : ∃ wz, wz = (((w.alloc (.cells #[.int .i64 3, .bool false, .int .i64 0, .int .i64 0] 24)).alloc (.cells #[.int .i64 1, .bool n2, .int .i64 m2, .int .i64 e2] 24)).alloc (.cells #[.int .i64 0, .bool false, .int .i64 0, .int .i64 0] 24)) := ⟨_, rfl⟩
  have k0 : Kept 0 0 w Wn := by rw [hn0]; exact ((((Kept.refl 0 0 w).alloc _).alloc _).alloc _)
  have p0 : Wn.cell? ⟨w.heap.size, 0, none⟩ = some (.int .i64 3) := by rw [hn0]; exact old_cell _ (old_cell _ (new_cell2 _ _ _ _ _ _ (by simp) rfl))
  have p1 : Wn.cell? ⟨w.heap.size, 1, none⟩ = some (.bool false) := by rw [hn0]; exact old_cell _ (old_cell _ (new_cell2 _ _ _ _ _ _ (by simp) rfl))
  have p2 : Wn.cell? ⟨w.heap.size, 2, none⟩ = some (.int .i64 0) := by rw [hn0]; exact old_cell _ (old_cell _ (new_cell2 _ _ _ _ _ _ (by simp) rfl))
  have p3 : Wn.cell? ⟨w.heap.size, 3, none⟩ = some (.int .i64 0) := by rw [hn0]; exact old_cell _ (old_cell _ (new_cell2 _ _ _ _ _ _ (by simp) rfl))
  have t0 : Wn.cell? ⟨w.heap.size + 1, 0, none⟩ = some (.int .i64 1) := by rw [hn0]; exact old_cell _ (new_cell2 _ _ _ _ _ _ (by simp) rfl)
  have t1 : Wn.cell? ⟨w.heap.size + 1, 1, none⟩ = some (.bool n2) := by rw [hn0]; exact old_cell _ (new_cell2 _ _ _ _ _ _ (by simp) rfl)
  have t2 : Wn.cell? ⟨w.heap.size + 1, 2, none⟩ = some (.int .i64 m2) := by rw [hn0]; exact old_cell _ (new_cell2 _ _ _ _ _ _ (by simp) rfl)
  have t3 : Wn.cell? ⟨w.heap.size + 1, 3, none⟩ = some (.int .i64 e2) := by rw [hn0]; exact old_cell _ (new_cell2 _ _ _ _ _ _ (by simp) rfl)
  obtain ⟨q0, q1, q2, q3, qf0, qf1, qf2, qf3⟩ := new4 hn0 (n := w.heap.size + 2) (by simp)
  have s0 : Wn.heap.size = w.heap.size + 3 := by rw [hn0]; exact by simp
  subst hn0
  have K := hide (k0)
  clear k0
  have S0 := hide s0
  clear s0
  go_enter Tryz.func61, Tryz.ntmps61
  go_wp2_with fail
  generalize (((w.alloc (.cells #[.int .i64 3, .bool false, .int .i64 0, .int .i64 0] 24)).alloc (.cells #[.int .i64 1, .bool n2, .int .i64 m2, .int .i64 e2] 24)).alloc (.cells #[.int .i64 0, .bool false, .int .i64 0, .int .i64 0] 24)) = W at *
  refine (nan_kept _).mono ?_
  rintro e w1 ⟨rfl, k1⟩
  revert qf0 qf1 qf2 qf3; refine k1.l4 q0 q1 q2 q3 ?_; intro qf0 qf1 qf2 qf3
  revert p0 p1 p2 p3 t0 t1 t2 t3 q0 q1 q2 q3; refine k1.m12 ?_; intro p0 p1 p2 p3 t0 t1 t2 t3 q0 q1 q2 q3
  replace K := hide ((unhide K).trans k1)
  have z2 := k1.size
  clear k1
  have KF := hide (((((unhide K).setNew (p := ⟨w.heap.size + 2, 0, none⟩) (by simp) (.int .i64 3)).setNew (p := ⟨w.heap.size + 2, 1, none⟩) (by simp) (.bool false)).setNew (p := ⟨w.heap.size + 2, 2, none⟩) (by simp) (.int .i64 0)).setNew (p := ⟨w.heap.size + 2, 3, none⟩) (by simp) (.int .i64 0))
  clear K
  try go_wp2_with fail
  exact bodyPost_ret (v := .tuple #[.agg #[.int .i64 3, .bool false, .int .i64 0, .int .i64 0], .int .i64 0]) (by simp [results, Tryz.results61, go_sem, q0, q1, q2, q3]) rfl ⟨by rw [unhide FQ], unhide KF⟩

set_option maxHeartbeats 2000000 in
theorem addS_nan_nought (n2 : Bool) (mode : Int) (hm0 : 0 ≤ mode) (hm4 : mode ≤ 4) (w : World) :
    Calls Tryz.prog 61 #[flv 3 false 0 0, flv 0 n2 0 0, .int .i64 mode] w fun e' w' => e' = .returned (.tuple #[flq (addQ 3 false 0 0 0 n2 0 0 mode).1, .int .i64 (addQ 3 false 0 0 0 n2 0 0 mode).2]) ∧ Kept 0 0 w w' := by
  obtain ⟨Q, hQ⟩ : ∃ q, addQ 3 false 0 0 0 n2 0 0 mode = q := ⟨_, rfl⟩
  rw [hQ]
  have HQ := hide hQ
  clear hQ
  have FQ : Hid (Q = ((3, false, 0, 0), 0)) := by show _ = _; rw [← unhide HQ]; unfold addQ; simp
  obtain ⟨Wn, hn0⟩ : ∃ wz, wz = (((w.alloc (.cells #[.int .i64 3, .bool false, .int .i64 0, .int .i64 0] 24)).alloc (.cells #[.int .i64 0, .bool n2, .int .i64 0, .int .i64 0] 24)).alloc (.cells #[.int .i64 0, .bool false, .int .i64 0, .int .i64 0] 24)) := ⟨_, rfl⟩
  have k0 : Kept 0 0 w Wn := by rw [hn0]; exact ((((Kept.refl 0 0 w).alloc _).alloc _).alloc _)
  have p0 : Wn.cell? ⟨w.heap.size, 0, none⟩ = some (.int .i64 3) := by rw [hn0]; exact old_cell _ (old_cell _ (new_cell2 _ _ _ _ _ _ (by simp) rfl))
  have p1 : Wn.cell? ⟨w.heap.size, 1, none⟩ = some (.bool false) := by rw [hn0]; exact old_cell _ (old_cell _ (new_cell2 _ _ _ _ _ _ (by simp) rfl))
  have p2 : Wn.cell? ⟨w.heap.size, 2, none⟩ = some (.int .i64 0) := by rw [hn0]; exact old_cell _ (old_cell _ (new_cell2 _ _ _ _ _ _ (by simp) rfl))
  have p3 : Wn.cell? ⟨w.heap.size, 3, none⟩ = some (.int .i64 0) := by rw [hn0]; exact old_cell _ (old_cell _ (new_cell2 _ _ _ _ _ _ (by simp) rfl))
  have t0 : Wn.cell? ⟨w.heap.size + 1, 0, none⟩ = some (.int .i64 0) := by rw [hn0]; exact old_cell _ (new_cell2 _ _ _ _ _ _ (by simp) rfl)
  have t1 : Wn.cell? ⟨w.heap.size + 1, 1, none⟩ = some (.bool n2) := by rw [hn0]; exact old_cell _ (new_cell2 _ _ _ _ _ _ (by simp) rfl)
  have t2 : Wn.cell? ⟨w.heap.size + 1, 2, none⟩ = some (.int .i64 0) := by rw [hn0]; exact old_cell _ (new_cell2 _ _ _ _ _ _ (by simp) rfl)
  have t3 : Wn.cell? ⟨w.heap.size + 1, 3, none⟩ = some (.int .i64 0) := by rw [hn0]; exact old_cell _ (new_cell2 _ _ _ _ _ _ (by simp) rfl)
  obtain ⟨q0, q1, q2, q3, qf0, qf1, qf2, qf3⟩ := new4 hn0 (n := w.heap.size + 2) (by simp)
  have s0 : Wn.heap.size = w.heap.size + 3 := by rw [hn0]; exact by simp
  subst hn0
  have K := hide (k0)
  clear k0
  have S0 := hide s0
  clear s0
  go_enter Tryz.func61, Tryz.ntmps61
  go_wp2_with fail
  generalize (((w.alloc (.cells #[.int .i64 3, .bool false, .int .i64 0, .int .i64 0] 24)).alloc (.cells #[.int .i64 0, .bool n2, .int .i64 0, .int .i64 0] 24)).alloc (.cells #[.int .i64 0, .bool false, .int .i64 0, .int .i64 0] 24)) = W at *
  refine (nan_kept _).mono ?_
  rintro e w1 ⟨rfl, k1⟩
  revert qf0 qf1 qf2 qf3; refine k1.l4 q0 q1 q2 q3 ?_; intro qf0 qf1 qf2 qf3
  revert p0 p1 p2 p3 t0 t1 t2 t3 q0 q1 q2 q3; refine k1.m12 ?_; intro p0 p1 p2 p3 t0 t1 t2 t3 q0 q1 q2 q3
  replace K := hide ((unhide K).trans k1)
  have z2 := k1.size
  clear k1
  have KF := hide (((((unhide K).setNew (p := ⟨w.heap.size + 2, 0, none⟩) (by simp) (.int .i64 3)).setNew (p := ⟨w.heap.size + 2, 1, none⟩) (by simp) (.bool false)).setNew (p := ⟨w.heap.size + 2, 2, none⟩) (by simp) (.int .i64 0)).setNew (p := ⟨w.heap.size + 2, 3, none⟩) (by simp) (.int .i64 0))
  clear K
  try go_wp2_with fail
  exact bodyPost_ret (v := .tuple #[.agg #[.int .i64 3, .bool false, .int .i64 0, .int .i64 0], .int .i64 0]) (by simp [results, Tryz.results61, go_sem, q0, q1, q2, q3]) rfl ⟨by rw [unhide FQ], unhide KF⟩

set_option maxHeartbeats 2000000 in
theorem addS_nan_inf (n2 : Bool) (mode : Int) (hm0 : 0 ≤ mode) (hm4 : mode ≤ 4) (w : World) :
    Calls Tryz.prog 61 #[flv 3 false 0 0, flv 2 n2 0 0, .int .i64 mode] w fun e' w' => e' = .returned (.tuple #[flq (addQ 3 false 0 0 2 n2 0 0 mode).1, .int .i64 (addQ 3 false 0 0 2 n2 0 0 mode).2]) ∧ Kept 0 0 w w' := by
  obtain ⟨Q, hQ⟩ : ∃ q, addQ 3 false 0 0 2 n2 0 0 mode = q := ⟨_, rfl⟩
  rw [hQ]
  have HQ := hide hQ
  clear hQ
  have FQ : Hid (Q = ((3, false, 0, 0), 0)) := by show _ = _; rw [← unhide HQ]; unfold addQ; simp
  obtain ⟨Wn, hn0⟩ : ∃ wz, wz = (((w.alloc (.cells #[.int .i64 3, .bool false, .int .i64 0, .int .i64 0] 24)).alloc (.cells #[.int .i64 2, .bool n2, .int .i64 0, .int .i64 0] 24)).alloc (.cells #[.int .i64 0, .bool false, .int .i64 0, .int .i64 0] 24)) := ⟨_, rfl⟩
  have k0 : Kept 0 0 w Wn := by rw [hn0]; exact ((((Kept.refl 0 0 w).alloc _).alloc _).alloc _)
  have p0 : Wn.cell? ⟨w.heap.size, 0, none⟩ = some (.int .i64 3) := by rw [hn0]; exact old_cell _ (old_cell _ (new_cell2 _ _ _ _ _ _ (by simp) rfl))
  have p1 : Wn.cell? ⟨w.heap.size, 1, none⟩ = some (.bool false) := by rw [hn0]; exact old_cell _ (old_cell _ (new_cell2 _ _ _ _ _ _ (by simp) rfl))
  have p2 : Wn.cell? ⟨w.heap.size, 2, none⟩ = some (.int .i64 0) := by rw [hn0]; exact old_cell _ (old_cell _ (new_cell2 _ _ _ _ _ _ (by simp) rfl))
  have p3 : Wn.cell? ⟨w.heap.size, 3, none⟩ = some (.int .i64 0) := by rw [hn0]; exact old_cell _ (old_cell _ (new_cell2 _ _ _ _ _ _ (by simp) rfl))
  have t0 : Wn.cell? ⟨w.heap.size + 1, 0, none⟩ = some (.int .i64 2) := by rw [hn0]; exact old_cell _ (new_cell2 _ _ _ _ _ _ (by simp) rfl)
  have t1 : Wn.cell? ⟨w.heap.size + 1, 1, none⟩ = some (.bool n2) := by rw [hn0]; exact old_cell _ (new_cell2 _ _ _ _ _ _ (by simp) rfl)
  have t2 : Wn.cell? ⟨w.heap.size + 1, 2, none⟩ = some (.int .i64 0) := by rw [hn0]; exact old_cell _ (new_cell2 _ _ _ _ _ _ (by simp) rfl)
  have t3 : Wn.cell? ⟨w.heap.size + 1, 3, none⟩ = some (.int .i64 0) := by rw [hn0]; exact old_cell _ (new_cell2 _ _ _ _ _ _ (by simp) rfl)
  obtain ⟨q0, q1, q2, q3, qf0, qf1, qf2, qf3⟩ := new4 hn0 (n := w.heap.size + 2) (by simp)
  have s0 : Wn.heap.size = w.heap.size + 3 := by rw [hn0]; exact by simp
  subst hn0
  have K := hide (k0)
  clear k0
  have S0 := hide s0
  clear s0
  go_enter Tryz.func61, Tryz.ntmps61
  go_wp2_with fail
  generalize (((w.alloc (.cells #[.int .i64 3, .bool false, .int .i64 0, .int .i64 0] 24)).alloc (.cells #[.int .i64 2, .bool n2, .int .i64 0, .int .i64 0] 24)).alloc (.cells #[.int .i64 0, .bool false, .int .i64 0, .int .i64 0] 24)) = W at *
  refine (nan_kept _).mono ?_
  rintro e w1 ⟨rfl, k1⟩
  revert qf0 qf1 qf2 qf3; refine k1.l4 q0 q1 q2 q3 ?_; intro qf0 qf1 qf2 qf3
  revert p0 p1 p2 p3 t0 t1 t2 t3 q0 q1 q2 q3; refine k1.m12 ?_; intro p0 p1 p2 p3 t0 t1 t2 t3 q0 q1 q2 q3
  replace K := hide ((unhide K).trans k1)
  have z2 := k1.size
  clear k1
  have KF := hide (((((unhide K).setNew (p := ⟨w.heap.size + 2, 0, none⟩) (by simp) (.int .i64 3)).setNew (p := ⟨w.heap.size + 2, 1, none⟩) (by simp) (.bool false)).setNew (p := ⟨w.heap.size + 2, 2, none⟩) (by simp) (.int .i64 0)).setNew (p := ⟨w.heap.size + 2, 3, none⟩) (by simp) (.int .i64 0))
  clear K
  try go_wp2_with fail
  exact bodyPost_ret (v := .tuple #[.agg #[.int .i64 3, .bool false, .int .i64 0, .int .i64 0], .int .i64 0]) (by simp [results, Tryz.results61, go_sem, q0, q1, q2, q3]) rfl ⟨by rw [unhide FQ], unhide KF⟩

set_option maxHeartbeats 2000000 in
theorem addS_nan_nan (mode : Int) (hm0 : 0 ≤ mode) (hm4 : mode ≤ 4) (w : World) :
    Calls Tryz.prog 61 #[flv 3 false 0 0, flv 3 false 0 0, .int .i64 mode] w fun e' w' => e' = .returned (.tuple #[flq (addQ 3 false 0 0 3 false 0 0 mode).1, .int .i64 (addQ 3 false 0 0 3 false 0 0 mode).2]) ∧ Kept 0 0 w w' := by
  obtain ⟨Q, hQ⟩ : ∃ q, addQ 3 false 0 0 3 false 0 0 mode = q := ⟨_, rfl⟩
  rw [hQ]
  have HQ := hide hQ
  clear hQ
  have FQ : Hid (Q = ((3, false, 0, 0), 0)) := by show _ = _; rw [← unhide HQ]; unfold addQ; simp
  obtain ⟨Wn, hn0⟩ : ∃ wz, wz = (((w.alloc (.cells #[.int .i64 3, .bool false, .int .i64 0, .int .i64 0] 24)).alloc (.cells #[.int .i64 3, .bool false, .int .i64 0, .int .i64 0] 24)).alloc (.cells #[.int .i64 0, .bool false, .int .i64 0, .int .i64 0] 24)) := ⟨_, rfl⟩
  have k0 : Kept 0 0 w Wn := by rw [hn0]; exact ((((Kept.refl 0 0 w).alloc _).alloc _).alloc _)
  have p0 : Wn.cell? ⟨w.heap.size, 0, none⟩ = some (.int .i64 3) := by rw [hn0]; exact old_cell _ (old_cell _ (new_cell2 _ _ _ _ _ _ (by simp) rfl))
  have p1 : Wn.cell? ⟨w.heap.size, 1, none⟩ = some (.bool false) := by rw [hn0]; exact old_cell _ (old_cell _ (new_cell2 _ _ _ _ _ _ (by simp) rfl))
  have p2 : Wn.cell? ⟨w.heap.size, 2, none⟩ = some (.int .i64 0) := by rw [hn0]; exact old_cell _ (old_cell _ (new_cell2 _ _ _ _ _ _ (by simp) rfl))
  have p3 : Wn.cell? ⟨w.heap.size, 3, none⟩ = some (.int .i64 0) := by rw [hn0]; exact old_cell _ (old_cell _ (new_cell2 _ _ _ _ _ _ (by simp) rfl))
  have t0 : Wn.cell? ⟨w.heap.size + 1, 0, none⟩ = some (.int .i64 3) := by rw [hn0]; exact old_cell _ (new_cell2 _ _ _ _ _ _ (by simp) rfl)
  have t1 : Wn.cell? ⟨w.heap.size + 1, 1, none⟩ = some (.bool false) := by rw [hn0]; exact old_cell _ (new_cell2 _ _ _ _ _ _ (by simp) rfl)
  have t2 : Wn.cell? ⟨w.heap.size + 1, 2, none⟩ = some (.int .i64 0) := by rw [hn0]; exact old_cell _ (new_cell2 _ _ _ _ _ _ (by simp) rfl)
  have t3 : Wn.cell? ⟨w.heap.size + 1, 3, none⟩ = some (.int .i64 0) := by rw [hn0]; exact old_cell _ (new_cell2 _ _ _ _ _ _ (by simp) rfl)
  obtain ⟨q0, q1, q2, q3, qf0, qf1, qf2, qf3⟩ := new4 hn0 (n := w.heap.size + 2) (by simp)
  have s0 : Wn.heap.size = w.heap.size + 3 := by rw [hn0]; exact by simp
  subst hn0
  have K := hide (k0)
  clear k0
  have S0 := hide s0
  clear s0
  go_enter Tryz.func61, Tryz.ntmps61
  go_wp2_with fail
  generalize (((w.alloc (.cells #[.int .i64 3, .bool false, .int .i64 0, .int .i64 0] 24)).alloc (.cells #[.int .i64 3, .bool false, .int .i64 0, .int .i64 0] 24)).alloc (.cells #[.int .i64 0, .bool false, .int .i64 0, .int .i64 0] 24)) = W at *
  refine (nan_kept _).mono ?_
  rintro e w1 ⟨rfl, k1⟩
  revert qf0 qf1 qf2 qf3; refine k1.l4 q0 q1 q2 q3 ?_; intro qf0 qf1 qf2 qf3
  revert p0 p1 p2 p3 t0 t1 t2 t3 q0 q1 q2 q3; refine k1.m12 ?_; intro p0 p1 p2 p3 t0 t1 t2 t3 q0 q1 q2 q3
  replace K := hide ((unhide K).trans k1)
  have z2 := k1.size
  clear k1
  have KF := hide (((((unhide K).setNew (p := ⟨w.heap.size + 2, 0, none⟩) (by simp) (.int .i64 3)).setNew (p := ⟨w.heap.size + 2, 1, none⟩) (by simp) (.bool false)).setNew (p := ⟨w.heap.size + 2, 2, none⟩) (by simp) (.int .i64 0)).setNew (p := ⟨w.heap.size + 2, 3, none⟩) (by simp) (.int .i64 0))
  clear K
  try go_wp2_with fail
  exact bodyPost_ret (v := .tuple #[.agg #[.int .i64 3, .bool false, .int .i64 0, .int .i64 0], .int .i64 0]) (by simp [results, Tryz.results61, go_sem, q0, q1, q2, q3]) rfl ⟨by rw [unhide FQ], unhide KF⟩

end Go.Proofs.YtepehpkmejjhiaaGreatDoor

