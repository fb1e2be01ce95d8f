/-
  The walk of the law FnExactIvMatMeets: it returns true at every argument.
-/
import Derived.Test.YtgdgkncielliaaaDoorIvM3
import Derived.Test.YtgdgkncielliaaaDoorBJ
import Derived.Test.YtgdgkncielliaaaDoorBC
import Derived.Deep.DeepCutAuto
namespace Go.Proofs.YtgdgkncielliaaaDoor
open Go.RowKit
set_option linter.unusedVariables false
set_option maxRecDepth 8000
set_option linter.unusedSimpArgs false

theorem wf_IvMatMeets {n : Int} (h : (Lit.int .i64 n).wf = true) : n ≤ 9223372036854775807 ∧ -9223372036854775808 ≤ n := by
  have e : (Lit.int .i64 n).wf = (decide (IntKind.i64.min ≤ n) && decide (n ≤ IntKind.i64.max)) := rfl
  rw [e, show IntKind.i64.min = -9223372036854775808 by decide, show IntKind.i64.max = 9223372036854775807 by decide] at h
  simp at h
  omega

set_option maxHeartbeats 16000000 in
theorem law_IvMatMeets {u0 u1 : Value} {z0 z1 : List DE} {m0 m1 : Nat} {w : World} (y0 : Int) (r0 : Ivs 0 w.heap.size w u0 z0 m0) (q0 : WfD z0) (fy0 : (Lit.int .i64 y0).wf = true) (y1 : Int) (r1 : Ivs 0 w.heap.size w u1 z1 m1) (q1 : WfD z1) (fy1 : (Lit.int .i64 y1).wf = true) (T : TabB w) :
    Calls Tryd.prog 3 #[.agg #[.int .i64 y0, u0], .agg #[.int .i64 y1, u1]] w fun e w' => e = .returned (.bool true) ∧ Below w.heap.size w w' := by
  obtain ⟨B0, hB0⟩ : ∃ B, immB y0 z0 m0 y1 z1 m1 = B := ⟨_, rfl⟩
  have EB0 := hide hB0
  clear hB0 fy0 fy1
  have sl0 := szV_len z0 m0
  have sl1 := szV_len z1 m1
  have k0 : Kept 0 0 w ((w.alloc (.cells #[.int .i64 y0, u0] 24)).alloc (.cells #[.int .i64 y1, u1] 24)) := (((Kept.refl 0 0 w).alloc (.cells #[.int .i64 y0, u0] 24)).alloc (.cells #[.int .i64 y1, u1] 24))
  have A0_0 : ((w.alloc (.cells #[.int .i64 y0, u0] 24)).alloc (.cells #[.int .i64 y1, u1] 24)).cell? ⟨w.heap.size, 0, none⟩ = some (.int .i64 y0) := old_cell _ (new_cell2 _ _ _ _ _ _ (by simp) rfl)
  have A0_1 : ((w.alloc (.cells #[.int .i64 y0, u0] 24)).alloc (.cells #[.int .i64 y1, u1] 24)).cell? ⟨w.heap.size, 1, none⟩ = some (u0) := old_cell _ (new_cell2 _ _ _ _ _ _ (by simp) rfl)
  have A1_0 : ((w.alloc (.cells #[.int .i64 y0, u0] 24)).alloc (.cells #[.int .i64 y1, u1] 24)).cell? ⟨w.heap.size + 1, 0, none⟩ = some (.int .i64 y1) := new_cell2 _ _ _ _ _ _ (by simp) rfl
  have A1_1 : ((w.alloc (.cells #[.int .i64 y0, u0] 24)).alloc (.cells #[.int .i64 y1, u1] 24)).cell? ⟨w.heap.size + 1, 1, none⟩ = some (u1) := new_cell2 _ _ _ _ _ _ (by simp) rfl
  replace r0 := r0.kept k0 (by omega)
  replace r1 := r1.kept k0 (by omega)
  have s0 : ((w.alloc (.cells #[.int .i64 y0, u0] 24)).alloc (.cells #[.int .i64 y1, u1] 24)).heap.size = w.heap.size + 2 := by simp
  have K := hide (k0)
  clear k0
  have S0 := hide s0
  clear s0
  obtain ⟨a0, c0, hv⟩ := r0.form'
  subst hv
  obtain ⟨a1, c1, hv⟩ := r1.form'
  subst hv
  go_enter Tryd.func3, Tryd.ntmps3
  go_wp2_with fail
  generalize ((w.alloc (.cells #[.int .i64 y0, .slice a0 m0 c0] 24)).alloc (.cells #[.int .i64 y1, .slice a1 m1 c1] 24)) = W at *
  refine (szIvMat_any (y0) _ (1048576) (by omega) (by omega) r0).mono ?_
  rintro e w1 ⟨rfl, k1⟩
  replace r0 := r0.kept k1 (.inr (.inr (Nat.le_refl 0)))
  replace r1 := r1.kept k1 (.inr (.inr (Nat.le_refl 0)))
  replace A0_0 := k1.cell0 A0_0
  replace A0_1 := k1.cell0 A0_1
  replace A1_0 := k1.cell0 A1_0
  replace A1_1 := k1.cell0 A1_1
  replace K := hide ((unhide K).trans k1)
  have z2 := k1.size
  clear k1
  by_cases big0 : szV z0 m0 ≤ 1048576
  rotate_left
  · rw [if_neg big0]
    go_wp2_with fail
    go_ret
    exact ⟨rfl, (unhide K).toBelow⟩
  rw [if_pos big0]
  have nb0 : ¬ (1048576 - szV z0 m0) < 0 := by omega
  have hn0 : m0 ≤ 1048576 := by omega
  have HL0 : Hid (∀ i, i < 2 * m0 → (z0.getD i de0).2.1.length ≤ 1099511627776) := fun i hi => by have := szV_each z0 m0 i hi; omega
  go_wp2_with fail
  refine (szIvMat_any (y1) _ (1048576 - szV z0 m0) (by omega) (by omega) r1).mono ?_
  rintro e w3 ⟨rfl, k3⟩
  replace r0 := r0.kept k3 (.inr (.inr (Nat.le_refl 0)))
  replace r1 := r1.kept k3 (.inr (.inr (Nat.le_refl 0)))
  replace A0_0 := k3.cell0 A0_0
  replace A0_1 := k3.cell0 A0_1
  replace A1_0 := k3.cell0 A1_0
  replace A1_1 := k3.cell0 A1_1
  replace K := hide ((unhide K).trans k3)
  have z4 := k3.size
  clear k3
  by_cases big1 : szV z1 m1 ≤ 1048576 - szV z0 m0
  rotate_left
  · rw [if_neg big1]
    go_wp2_with fail
    go_ret
    exact ⟨rfl, (unhide K).toBelow⟩
  rw [if_pos big1]
  have nb1 : ¬ (1048576 - szV z0 m0 - szV z1 m1) < 0 := by omega
  have hn1 : m1 ≤ 1048576 := by omega
  have HL1 : Hid (∀ i, i < 2 * m1 → (z1.getD i de0).2.1.length ≤ 1099511627776) := fun i hi => by have := szV_each z1 m1 i hi; omega
  go_upto_region 8 with fail
  have kd := (Kept.refl 0 0 w3).drew
  replace r0 := r0.kept kd (.inr (.inr (Nat.le_refl 0)))
  replace r1 := r1.kept kd (.inr (.inr (Nat.le_refl 0)))
  replace A0_0 := kd.cell0 A0_0
  replace A0_1 := kd.cell0 A0_1
  replace A1_0 := kd.cell0 A1_0
  replace A1_1 := kd.cell0 A1_1
  replace K := hide ((unhide K).trans kd)
  have z5 := kd.size
  clear kd
  refine wp_region_held_drew (S := (fun w' => w'.cell? ⟨w.heap.size, 0, none⟩ = some (.int .i64 y0) ∧ w'.cell? ⟨w.heap.size, 1, none⟩ = some (.slice a0 m0 c0) ∧ w'.cell? ⟨w.heap.size + 1, 0, none⟩ = some (.int .i64 y1) ∧ w'.cell? ⟨w.heap.size + 1, 1, none⟩ = some (.slice a1 m1 c1))) (by kernel_rfl) ?_ (fun hHeld => ?_)
  · exact ⟨A0_0, A0_1, A1_0, A1_1⟩
  refine wpAnyH_take (i := 0) (oi := _) (v := .agg #[.int .i64 y0, .slice a0 m0 c0]) rfl (by kernel_rfl) (by kernel_rfl) (by kernel_rfl) (fun _ _ _ h => h) (Or.inl ⟨by rfl, ?_⟩) hHeld ?_
  · intro wq hSw
    try dsimp only at hSw
    go_simp
  try simp only [Act.put, List.getElem_toArray, List.getElem_cons_succ, List.getElem_cons_zero, List.setIfInBounds_toArray, List.set_cons_zero, List.set_cons_succ]
  refine wpAnyH_take (i := 2) (oi := _) (v := .agg #[.int .i64 y1, .slice a1 m1 c1]) rfl (by kernel_rfl) (by kernel_rfl) (by kernel_rfl) (fun _ _ _ h => h) (Or.inl ⟨by rfl, ?_⟩) hHeld ?_
  · intro wq hSw
    try dsimp only at hSw
    go_simp
  try simp only [Act.put, List.getElem_toArray, List.getElem_cons_succ, List.getElem_cons_zero, List.setIfInBounds_toArray, List.set_cons_zero, List.set_cons_succ]
  refine wpAnyH_ready (rs := [1]) (by kernel_rfl) (by simp) ?_
  refine AllReadyH.cons rfl (fun KK hK => ?_) AllReadyH.nil
  simp only [List.getElem_toArray, List.getElem_cons_succ, List.getElem_cons_zero]
  rw [if_pos (by rfl)]
  refine wps1 6 (.tmp 20) _ rfl in_toIM (.agg #[.int .i64 y0, .slice a0 m0 c0]) rfl (toIvMat_any (y0) _ hn0 (unhide HL0) r0) ?_
  rintro e w6 ⟨ve0, rfl, re0, k6⟩
  refine ⟨_, rfl, ?_⟩
  replace r0 := r0.kept k6 (.inr (.inr (Nat.le_refl 0)))
  replace r1 := r1.kept k6 (.inr (.inr (Nat.le_refl 0)))
  replace A0_0 := k6.cell0 A0_0
  replace A0_1 := k6.cell0 A0_1
  replace A1_0 := k6.cell0 A1_0
  replace A1_1 := k6.cell0 A1_1
  replace K := hide ((unhide K).trans k6)
  have z7 := k6.size
  clear k6
  clear hHeld
  refine hK.out _ _ ?_ (fun hHeld => ?_)
  · exact ⟨A0_0, A0_1, A1_0, A1_1⟩
  clear hK KK
  try simp only [Act.put, List.getElem_toArray, List.getElem_cons_succ, List.getElem_cons_zero, List.setIfInBounds_toArray, List.set_cons_zero, List.set_cons_succ]
  refine wpAnyH_ready (rs := [3]) (by kernel_rfl) (by simp) ?_
  refine AllReadyH.cons rfl (fun KK hK => ?_) AllReadyH.nil
  simp only [List.getElem_toArray, List.getElem_cons_succ, List.getElem_cons_zero]
  rw [if_pos (by rfl)]
  refine wps1 6 (.tmp 22) _ rfl in_toIM (.agg #[.int .i64 y1, .slice a1 m1 c1]) rfl (toIvMat_any (y1) _ hn1 (unhide HL1) r1) ?_
  rintro e w8 ⟨ve1, rfl, re1, k8⟩
  refine ⟨_, rfl, ?_⟩
  replace r0 := r0.kept k8 (.inr (.inr (Nat.le_refl 0)))
  replace r1 := r1.kept k8 (.inr (.inr (Nat.le_refl 0)))
  replace re0 := re0.kept k8 (.inr (.inr (Nat.le_refl 0)))
  replace A0_0 := k8.cell0 A0_0
  replace A0_1 := k8.cell0 A0_1
  replace A1_0 := k8.cell0 A1_0
  replace A1_1 := k8.cell0 A1_1
  replace K := hide ((unhide K).trans k8)
  have z9 := k8.size
  clear k8
  clear hHeld
  refine hK.out _ _ ?_ (fun hHeld => ?_)
  · exact ⟨A0_0, A0_1, A1_0, A1_1⟩
  clear hK KK
  try simp only [Act.put, List.getElem_toArray, List.getElem_cons_succ, List.getElem_cons_zero, List.setIfInBounds_toArray, List.set_cons_zero, List.set_cons_succ]
  refine wpAnyH_ready (rs := [4]) (by kernel_rfl) (by simp) ?_
  refine AllReadyH.cons rfl (fun KK hK => ?_) AllReadyH.nil
  simp only [List.getElem_toArray, List.getElem_cons_succ, List.getElem_cons_zero]
  rw [if_pos (by rfl)]
  refine wps2 5 (.tmp 21) (.tmp 23) _ rfl in_spec_IvMatMeets (.agg #[.int .i64 y0, ve0]) (.agg #[.int .i64 y1, ve1]) rfl rfl (Calls.mono (ivMatMeets_spec y0 y1 _ q0 q1 re0 re1) (fun e w' h => (show e = .returned (.bool B0) ∧ Kept 0 0 _ w' from ⟨by rw [h.1, unhide EB0], h.2⟩))) ?_
  rintro e w10 ⟨rfl, k10⟩
  refine ⟨_, rfl, ?_⟩
  replace r0 := r0.kept k10 (.inr (.inr (Nat.le_refl 0)))
  replace r1 := r1.kept k10 (.inr (.inr (Nat.le_refl 0)))
  replace re0 := re0.kept k10 (.inr (.inr (Nat.le_refl 0)))
  replace re1 := re1.kept k10 (.inr (.inr (Nat.le_refl 0)))
  replace A0_0 := k10.cell0 A0_0
  replace A0_1 := k10.cell0 A0_1
  replace A1_0 := k10.cell0 A1_0
  replace A1_1 := k10.cell0 A1_1
  replace K := hide ((unhide K).trans k10)
  have z11 := k10.size
  clear k10
  clear hHeld
  refine hK.out _ _ ?_ (fun hHeld => ?_)
  · exact ⟨A0_0, A0_1, A1_0, A1_1⟩
  clear hK KK
  try simp only [Act.put, List.getElem_toArray, List.getElem_cons_succ, List.getElem_cons_zero, List.setIfInBounds_toArray, List.set_cons_zero, List.set_cons_succ]
  refine wpAnyH_take (i := 5) (oi := _) (v := .bool B0) rfl (by kernel_rfl) (by kernel_rfl) (by kernel_rfl) (fun _ _ _ h => h) (Or.inl ⟨by rfl, ?_⟩) hHeld ?_
  · intro wq hSw
    try dsimp only at hSw
    go_simp
  try simp only [Act.put, List.getElem_toArray, List.getElem_cons_succ, List.getElem_cons_zero, List.setIfInBounds_toArray, List.set_cons_zero, List.set_cons_succ]
  refine wpAnyH_done (by kernel_rfl) ?_ _
  clear hHeld
  clear re0 re1
  go_wp2_with fail
  refine (toIvMat_any (y0) _ hn0 (unhide HL0) r0).mono ?_
  rintro e w12 ⟨vx0, rfl, rx0, k12⟩
  replace r0 := r0.kept k12 (.inr (.inr (Nat.le_refl 0)))
  replace r1 := r1.kept k12 (.inr (.inr (Nat.le_refl 0)))
  replace A0_0 := k12.cell0 A0_0
  replace A0_1 := k12.cell0 A0_1
  replace A1_0 := k12.cell0 A1_0
  replace A1_1 := k12.cell0 A1_1
  replace K := hide ((unhide K).trans k12)
  have z13 := k12.size
  clear k12
  obtain ⟨ax0, dx0, hv⟩ := rx0.form'
  subst hv
  have kn := (Kept.refl 0 0 w12).alloc (.cells #[.int .i64 y0, .slice ax0 m0 dx0] 29)
  have cx0_0 : (w12.alloc (.cells #[.int .i64 y0, .slice ax0 m0 dx0] 29)).cell? ⟨w12.heap.size, 0, none⟩ = some (.int .i64 y0) := new_cell2 _ _ _ _ _ _ rfl rfl
  have cx0_1 : (w12.alloc (.cells #[.int .i64 y0, .slice ax0 m0 dx0] 29)).cell? ⟨w12.heap.size, 1, none⟩ = some (.slice ax0 m0 dx0) := new_cell2 _ _ _ _ _ _ rfl rfl
  have t14 : w12.heap.size + 1 ≤ (w12.alloc (.cells #[.int .i64 y0, .slice ax0 m0 dx0] 29)).heap.size := by simp
  replace r0 := r0.kept kn (.inr (.inr (Nat.le_refl 0)))
  replace r1 := r1.kept kn (.inr (.inr (Nat.le_refl 0)))
  replace rx0 := rx0.kept kn (.inr (.inr (Nat.le_refl 0)))
  replace A0_0 := kn.cell0 A0_0
  replace A0_1 := kn.cell0 A0_1
  replace A1_0 := kn.cell0 A1_0
  replace A1_1 := kn.cell0 A1_1
  replace K := hide ((unhide K).trans kn)
  have z15 := kn.size
  clear kn
  go_wp2_with fail
  generalize w12.alloc (.cells #[.int .i64 y0, .slice ax0 m0 dx0] 29) = wm14 at *
  refine (toIvMat_any (y1) _ hn1 (unhide HL1) r1).mono ?_
  rintro e w16 ⟨vx1, rfl, rx1, k16⟩
  replace r0 := r0.kept k16 (.inr (.inr (Nat.le_refl 0)))
  replace r1 := r1.kept k16 (.inr (.inr (Nat.le_refl 0)))
  replace rx0 := rx0.kept k16 (.inr (.inr (Nat.le_refl 0)))
  replace A0_0 := k16.cell0 A0_0
  replace A0_1 := k16.cell0 A0_1
  replace A1_0 := k16.cell0 A1_0
  replace A1_1 := k16.cell0 A1_1
  replace cx0_0 := k16.cell0 cx0_0
  replace cx0_1 := k16.cell0 cx0_1
  replace K := hide ((unhide K).trans k16)
  have z17 := k16.size
  clear k16
  obtain ⟨ax1, dx1, hv⟩ := rx1.form'
  subst hv
  have kn := (Kept.refl 0 0 w16).alloc (.cells #[.int .i64 y1, .slice ax1 m1 dx1] 29)
  have cx1_0 : (w16.alloc (.cells #[.int .i64 y1, .slice ax1 m1 dx1] 29)).cell? ⟨w16.heap.size, 0, none⟩ = some (.int .i64 y1) := new_cell2 _ _ _ _ _ _ rfl rfl
  have cx1_1 : (w16.alloc (.cells #[.int .i64 y1, .slice ax1 m1 dx1] 29)).cell? ⟨w16.heap.size, 1, none⟩ = some (.slice ax1 m1 dx1) := new_cell2 _ _ _ _ _ _ rfl rfl
  have t18 : w16.heap.size + 1 ≤ (w16.alloc (.cells #[.int .i64 y1, .slice ax1 m1 dx1] 29)).heap.size := by simp
  replace r0 := r0.kept kn (.inr (.inr (Nat.le_refl 0)))
  replace r1 := r1.kept kn (.inr (.inr (Nat.le_refl 0)))
  replace rx0 := rx0.kept kn (.inr (.inr (Nat.le_refl 0)))
  replace rx1 := rx1.kept kn (.inr (.inr (Nat.le_refl 0)))
  replace A0_0 := kn.cell0 A0_0
  replace A0_1 := kn.cell0 A0_1
  replace A1_0 := kn.cell0 A1_0
  replace A1_1 := kn.cell0 A1_1
  replace cx0_0 := kn.cell0 cx0_0
  replace cx0_1 := kn.cell0 cx0_1
  replace K := hide ((unhide K).trans kn)
  have z19 := kn.size
  clear kn
  go_wp2_with fail
  generalize w16.alloc (.cells #[.int .i64 y1, .slice ax1 m1 dx1] 29) = wm18 at *
  have mk := ivMatMeets_impl y0 y1 wm18 q0 q1 rx0 rx1 (T.kept (unhide K))
  simp only [unhide EB0] at mk
  refine (mk).mono ?_
  rintro e w20 ⟨rfl, k20⟩
  replace r0 := r0.kept k20 (.inr (.inr (Nat.le_refl 0)))
  replace r1 := r1.kept k20 (.inr (.inr (Nat.le_refl 0)))
  replace rx0 := rx0.kept k20 (.inr (.inr (Nat.le_refl 0)))
  replace rx1 := rx1.kept k20 (.inr (.inr (Nat.le_refl 0)))
  replace A0_0 := k20.cell0 A0_0
  replace A0_1 := k20.cell0 A0_1
  replace A1_0 := k20.cell0 A1_0
  replace A1_1 := k20.cell0 A1_1
  replace cx0_0 := k20.cell0 cx0_0
  replace cx0_1 := k20.cell0 cx0_1
  replace cx1_0 := k20.cell0 cx1_0
  replace cx1_1 := k20.cell0 cx1_1
  replace K := hide ((unhide K).trans k20)
  have z21 := k20.size
  clear k20
  clear mk
  have fB : (!(B0 == B0)) = false := by cases B0 <;> rfl
  have gB : (B0 != B0) = false := by cases B0 <;> rfl
  go_upto_region 14 with fail
  have kd := (Kept.refl 0 0 w20).drew
  replace r0 := r0.kept kd (.inr (.inr (Nat.le_refl 0)))
  replace r1 := r1.kept kd (.inr (.inr (Nat.le_refl 0)))
  replace rx0 := rx0.kept kd (.inr (.inr (Nat.le_refl 0)))
  replace rx1 := rx1.kept kd (.inr (.inr (Nat.le_refl 0)))
  replace A0_0 := kd.cell0 A0_0
  replace A0_1 := kd.cell0 A0_1
  replace A1_0 := kd.cell0 A1_0
  replace A1_1 := kd.cell0 A1_1
  replace cx0_0 := kd.cell0 cx0_0
  replace cx0_1 := kd.cell0 cx0_1
  replace cx1_0 := kd.cell0 cx1_0
  replace cx1_1 := kd.cell0 cx1_1
  replace K := hide ((unhide K).trans kd)
  have z22 := kd.size
  clear kd
  refine wp_region_held_drew (S := (fun w' => w'.cell? ⟨w.heap.size, 0, none⟩ = some (.int .i64 y0) ∧ w'.cell? ⟨w.heap.size, 1, none⟩ = some (.slice a0 m0 c0) ∧ w'.cell? ⟨w12.heap.size, 0, none⟩ = some (.int .i64 y0) ∧ w'.cell? ⟨w12.heap.size, 1, none⟩ = some (.slice ax0 m0 dx0))) (by kernel_rfl) ?_ (fun hHeld => ?_)
  · exact ⟨A0_0, A0_1, cx0_0, cx0_1⟩
  refine wpAnyH_take (i := 0) (oi := _) (v := .agg #[.int .i64 y0, .slice ax0 m0 dx0]) rfl (by kernel_rfl) (by kernel_rfl) (by kernel_rfl) (fun _ _ _ h => h) (Or.inl ⟨by rfl, ?_⟩) hHeld ?_
  · intro wq hSw
    try dsimp only at hSw
    go_simp
  try simp only [Act.put, List.getElem_toArray, List.getElem_cons_succ, List.getElem_cons_zero, List.setIfInBounds_toArray, List.set_cons_zero, List.set_cons_succ]
  refine wpAnyH_take (i := 1) (oi := _) (v := .agg #[.int .i64 y0, .slice a0 m0 c0]) rfl (by kernel_rfl) (by kernel_rfl) (by kernel_rfl) (fun _ _ _ h => h) (Or.inl ⟨by rfl, ?_⟩) hHeld ?_
  · intro wq hSw
    try dsimp only at hSw
    go_simp
  try simp only [Act.put, List.getElem_toArray, List.getElem_cons_succ, List.getElem_cons_zero, List.setIfInBounds_toArray, List.set_cons_zero, List.set_cons_succ]
  refine wpAnyH_ready (rs := [2]) (by kernel_rfl) (by simp) ?_
  refine AllReadyH.cons rfl (fun KK hK => ?_) AllReadyH.nil
  simp only [List.getElem_toArray, List.getElem_cons_succ, List.getElem_cons_zero]
  rw [if_pos (by rfl)]
  refine wps1 6 (.tmp 36) _ rfl in_toIM (.agg #[.int .i64 y0, .slice a0 m0 c0]) rfl (toIvMat_any (y0) _ hn0 (unhide HL0) r0) ?_
  rintro e w23 ⟨vf0, rfl, rf0, k23⟩
  refine ⟨_, rfl, ?_⟩
  replace r0 := r0.kept k23 (.inr (.inr (Nat.le_refl 0)))
  replace r1 := r1.kept k23 (.inr (.inr (Nat.le_refl 0)))
  replace rx0 := rx0.kept k23 (.inr (.inr (Nat.le_refl 0)))
  replace rx1 := rx1.kept k23 (.inr (.inr (Nat.le_refl 0)))
  replace A0_0 := k23.cell0 A0_0
  replace A0_1 := k23.cell0 A0_1
  replace A1_0 := k23.cell0 A1_0
  replace A1_1 := k23.cell0 A1_1
  replace cx0_0 := k23.cell0 cx0_0
  replace cx0_1 := k23.cell0 cx0_1
  replace cx1_0 := k23.cell0 cx1_0
  replace cx1_1 := k23.cell0 cx1_1
  replace K := hide ((unhide K).trans k23)
  have z24 := k23.size
  clear k23
  clear hHeld
  refine hK.out _ _ ?_ (fun hHeld => ?_)
  · exact ⟨A0_0, A0_1, cx0_0, cx0_1⟩
  clear hK KK
  try simp only [Act.put, List.getElem_toArray, List.getElem_cons_succ, List.getElem_cons_zero, List.setIfInBounds_toArray, List.set_cons_zero, List.set_cons_succ]
  refine wpAnyH_ready (rs := [3]) (by kernel_rfl) (by simp) ?_
  refine AllReadyH.cons rfl (fun KK hK => ?_) AllReadyH.nil
  simp only [List.getElem_toArray, List.getElem_cons_succ, List.getElem_cons_zero]
  rw [if_pos (by rfl)]
  refine wps2 8 (.tmp 35) (.tmp 37) _ rfl in_eqIM (.agg #[.int .i64 y0, .slice ax0 m0 dx0]) (.agg #[.int .i64 y0, vf0]) rfl rfl (eqIvMat_same (y0) _ rx0 rf0) ?_
  rintro e w25 ⟨rfl, k25⟩
  refine ⟨_, rfl, ?_⟩
  replace r0 := r0.kept k25 (.inr (.inr (Nat.le_refl 0)))
  replace r1 := r1.kept k25 (.inr (.inr (Nat.le_refl 0)))
  replace rx0 := rx0.kept k25 (.inr (.inr (Nat.le_refl 0)))
  replace rx1 := rx1.kept k25 (.inr (.inr (Nat.le_refl 0)))
  replace rf0 := rf0.kept k25 (.inr (.inr (Nat.le_refl 0)))
  replace A0_0 := k25.cell0 A0_0
  replace A0_1 := k25.cell0 A0_1
  replace A1_0 := k25.cell0 A1_0
  replace A1_1 := k25.cell0 A1_1
  replace cx0_0 := k25.cell0 cx0_0
  replace cx0_1 := k25.cell0 cx0_1
  replace cx1_0 := k25.cell0 cx1_0
  replace cx1_1 := k25.cell0 cx1_1
  replace K := hide ((unhide K).trans k25)
  have z26 := k25.size
  clear k25
  clear hHeld
  refine hK.out _ _ ?_ (fun hHeld => ?_)
  · exact ⟨A0_0, A0_1, cx0_0, cx0_1⟩
  clear hK KK
  try simp only [Act.put, List.getElem_toArray, List.getElem_cons_succ, List.getElem_cons_zero, List.setIfInBounds_toArray, List.set_cons_zero, List.set_cons_succ]
  refine wpAnyH_take (i := 4) (oi := _) (v := .bool false) rfl (by kernel_rfl) (by kernel_rfl) (by kernel_rfl) (fun _ _ _ h => h) (Or.inl ⟨by rfl, ?_⟩) hHeld ?_
  · intro wq hSw
    try dsimp only at hSw
    go_simp
  try simp only [Act.put, List.getElem_toArray, List.getElem_cons_succ, List.getElem_cons_zero, List.setIfInBounds_toArray, List.set_cons_zero, List.set_cons_succ]
  refine wpAnyH_done (by kernel_rfl) ?_ _
  clear hHeld
  clear rf0
  go_upto_region 16 with fail
  have kd := (Kept.refl 0 0 w25).drew
  replace r0 := r0.kept kd (.inr (.inr (Nat.le_refl 0)))
  replace r1 := r1.kept kd (.inr (.inr (Nat.le_refl 0)))
  replace rx0 := rx0.kept kd (.inr (.inr (Nat.le_refl 0)))
  replace rx1 := rx1.kept kd (.inr (.inr (Nat.le_refl 0)))
  replace A0_0 := kd.cell0 A0_0
  replace A0_1 := kd.cell0 A0_1
  replace A1_0 := kd.cell0 A1_0
  replace A1_1 := kd.cell0 A1_1
  replace cx0_0 := kd.cell0 cx0_0
  replace cx0_1 := kd.cell0 cx0_1
  replace cx1_0 := kd.cell0 cx1_0
  replace cx1_1 := kd.cell0 cx1_1
  replace K := hide ((unhide K).trans kd)
  have z27 := kd.size
  clear kd
  refine wp_region_held_drew (S := (fun w' => w'.cell? ⟨w.heap.size + 1, 0, none⟩ = some (.int .i64 y1) ∧ w'.cell? ⟨w.heap.size + 1, 1, none⟩ = some (.slice a1 m1 c1) ∧ w'.cell? ⟨w16.heap.size, 0, none⟩ = some (.int .i64 y1) ∧ w'.cell? ⟨w16.heap.size, 1, none⟩ = some (.slice ax1 m1 dx1))) (by kernel_rfl) ?_ (fun hHeld => ?_)
  · exact ⟨A1_0, A1_1, cx1_0, cx1_1⟩
  refine wpAnyH_take (i := 0) (oi := _) (v := .agg #[.int .i64 y1, .slice ax1 m1 dx1]) rfl (by kernel_rfl) (by kernel_rfl) (by kernel_rfl) (fun _ _ _ h => h) (Or.inl ⟨by rfl, ?_⟩) hHeld ?_
  · intro wq hSw
    try dsimp only at hSw
    go_simp
  try simp only [Act.put, List.getElem_toArray, List.getElem_cons_succ, List.getElem_cons_zero, List.setIfInBounds_toArray, List.set_cons_zero, List.set_cons_succ]
  refine wpAnyH_take (i := 1) (oi := _) (v := .agg #[.int .i64 y1, .slice a1 m1 c1]) rfl (by kernel_rfl) (by kernel_rfl) (by kernel_rfl) (fun _ _ _ h => h) (Or.inl ⟨by rfl, ?_⟩) hHeld ?_
  · intro wq hSw
    try dsimp only at hSw
    go_simp
  try simp only [Act.put, List.getElem_toArray, List.getElem_cons_succ, List.getElem_cons_zero, List.setIfInBounds_toArray, List.set_cons_zero, List.set_cons_succ]
  refine wpAnyH_ready (rs := [2]) (by kernel_rfl) (by simp) ?_
  refine AllReadyH.cons rfl (fun KK hK => ?_) AllReadyH.nil
  simp only [List.getElem_toArray, List.getElem_cons_succ, List.getElem_cons_zero]
  rw [if_pos (by rfl)]
  refine wps1 6 (.tmp 41) _ rfl in_toIM (.agg #[.int .i64 y1, .slice a1 m1 c1]) rfl (toIvMat_any (y1) _ hn1 (unhide HL1) r1) ?_
  rintro e w28 ⟨vf1, rfl, rf1, k28⟩
  refine ⟨_, rfl, ?_⟩
  replace r0 := r0.kept k28 (.inr (.inr (Nat.le_refl 0)))
  replace r1 := r1.kept k28 (.inr (.inr (Nat.le_refl 0)))
  replace rx0 := rx0.kept k28 (.inr (.inr (Nat.le_refl 0)))
  replace rx1 := rx1.kept k28 (.inr (.inr (Nat.le_refl 0)))
  replace A0_0 := k28.cell0 A0_0
  replace A0_1 := k28.cell0 A0_1
  replace A1_0 := k28.cell0 A1_0
  replace A1_1 := k28.cell0 A1_1
  replace cx0_0 := k28.cell0 cx0_0
  replace cx0_1 := k28.cell0 cx0_1
  replace cx1_0 := k28.cell0 cx1_0
  replace cx1_1 := k28.cell0 cx1_1
  replace K := hide ((unhide K).trans k28)
  have z29 := k28.size
  clear k28
  clear hHeld
  refine hK.out _ _ ?_ (fun hHeld => ?_)
  · exact ⟨A1_0, A1_1, cx1_0, cx1_1⟩
  clear hK KK
  try simp only [Act.put, List.getElem_toArray, List.getElem_cons_succ, List.getElem_cons_zero, List.setIfInBounds_toArray, List.set_cons_zero, List.set_cons_succ]
  refine wpAnyH_ready (rs := [3]) (by kernel_rfl) (by simp) ?_
  refine AllReadyH.cons rfl (fun KK hK => ?_) AllReadyH.nil
  simp only [List.getElem_toArray, List.getElem_cons_succ, List.getElem_cons_zero]
  rw [if_pos (by rfl)]
  refine wps2 8 (.tmp 40) (.tmp 42) _ rfl in_eqIM (.agg #[.int .i64 y1, .slice ax1 m1 dx1]) (.agg #[.int .i64 y1, vf1]) rfl rfl (eqIvMat_same (y1) _ rx1 rf1) ?_
  rintro e w30 ⟨rfl, k30⟩
  refine ⟨_, rfl, ?_⟩
  replace r0 := r0.kept k30 (.inr (.inr (Nat.le_refl 0)))
  replace r1 := r1.kept k30 (.inr (.inr (Nat.le_refl 0)))
  replace rx0 := rx0.kept k30 (.inr (.inr (Nat.le_refl 0)))
  replace rx1 := rx1.kept k30 (.inr (.inr (Nat.le_refl 0)))
  replace rf1 := rf1.kept k30 (.inr (.inr (Nat.le_refl 0)))
  replace A0_0 := k30.cell0 A0_0
  replace A0_1 := k30.cell0 A0_1
  replace A1_0 := k30.cell0 A1_0
  replace A1_1 := k30.cell0 A1_1
  replace cx0_0 := k30.cell0 cx0_0
  replace cx0_1 := k30.cell0 cx0_1
  replace cx1_0 := k30.cell0 cx1_0
  replace cx1_1 := k30.cell0 cx1_1
  replace K := hide ((unhide K).trans k30)
  have z31 := k30.size
  clear k30
  clear hHeld
  refine hK.out _ _ ?_ (fun hHeld => ?_)
  · exact ⟨A1_0, A1_1, cx1_0, cx1_1⟩
  clear hK KK
  try simp only [Act.put, List.getElem_toArray, List.getElem_cons_succ, List.getElem_cons_zero, List.setIfInBounds_toArray, List.set_cons_zero, List.set_cons_succ]
  refine wpAnyH_take (i := 4) (oi := _) (v := .bool false) rfl (by kernel_rfl) (by kernel_rfl) (by kernel_rfl) (fun _ _ _ h => h) (Or.inl ⟨by rfl, ?_⟩) hHeld ?_
  · intro wq hSw
    try dsimp only at hSw
    go_simp
  try simp only [Act.put, List.getElem_toArray, List.getElem_cons_succ, List.getElem_cons_zero, List.setIfInBounds_toArray, List.set_cons_zero, List.set_cons_succ]
  refine wpAnyH_done (by kernel_rfl) ?_ _
  clear hHeld
  go_wp2_with fail
  go_ret
  exact ⟨rfl, (unhide K).toBelow⟩

end Go.Proofs.YtgdgkncielliaaaDoor
