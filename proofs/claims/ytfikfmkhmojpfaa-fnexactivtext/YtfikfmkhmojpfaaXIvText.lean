/-
  The walk of the law FnExactIvText: it returns true at every argument.
-/
import Derived.Test.YtfikfmkhmojpfaaIvt3
import Derived.Test.YtfikfmkhmojpfaaBJ
import Derived.Test.YtfikfmkhmojpfaaLawV
import Derived.Test.YtfikfmkhmojpfaaBC
import Derived.Deep.DeepCutAuto
namespace Go.Proofs.Ytfikfmkhmojpfaa
open Go.RowKit
set_option linter.unusedVariables false
set_option maxRecDepth 8000
set_option linter.unusedSimpArgs false

theorem wf_IvText {n : Int} (h : (Lit.int .i64 n).wf = true) : n ≤ 9223372036854775807 ∧ -9223372036854775808 ≤ n := by
  have e : (Lit.int .i64 n).wf = (decide (IntKind.i64.min ≤ n) && decide (n ≤ IntKind.i64.max)) := rfl
  rw [e, show IntKind.i64.min = -9223372036854775808 by decide, show IntKind.i64.max = 9223372036854775807 by decide] at h
  simp at h
  omega

set_option maxHeartbeats 16000000 in
theorem law_IvText {u0 : Value} {z0 : List Int} {u0b : Value} {z0b : List Int} {w : World} (s0 : Bool) (y0 : Int) (r0 : Row .i64 false 0 w.heap.size w u0 z0) (fy0 : (Lit.int .i64 y0).wf = true) (s0b : Bool) (y0b : Int) (r0b : Row .i64 false 0 w.heap.size w u0b z0b) (fy0b : (Lit.int .i64 y0b).wf = true) :
    Calls Try.prog 5 #[.agg #[.bool s0, u0, .int .i64 y0, .bool s0b, u0b, .int .i64 y0b]] w fun e w' => e = .returned (.bool true) ∧ Below w.heap.size w w' := by
  have gy0 : y0 ≤ 9223372036854775807 ∧ -9223372036854775808 ≤ y0 := wf_IvText fy0
  clear fy0
  have gy0b : y0b ≤ 9223372036854775807 ∧ -9223372036854775808 ≤ y0b := wf_IvText fy0b
  clear fy0b
  obtain ⟨B1, hB1⟩ : ∃ B, ivtB s0 z0 y0 s0b z0b y0b = B := ⟨_, rfl⟩
  obtain ⟨L0, hL0⟩ : ∃ L, ivtT s0 z0 y0 s0b z0b y0b = L := ⟨_, rfl⟩
  have hn'0 : L0.length ≤ 70000 := by rw [← hL0]; exact ivtT_len _ _ _ _ _ _
  have hq0 : L0.length ≤ 1099511627776 := by omega
  have hm0 := r0.len
  unfold maxLen at hm0
  have hm0b := r0b.len
  unfold maxLen at hm0b
  have k0 : Kept 0 0 w (w.alloc (.cells #[.bool s0, u0, .int .i64 y0, .bool s0b, u0b, .int .i64 y0b] 53)) := ((Kept.refl 0 0 w).alloc (.cells #[.bool s0, u0, .int .i64 y0, .bool s0b, u0b, .int .i64 y0b] 53))
  have A0_0 : (w.alloc (.cells #[.bool s0, u0, .int .i64 y0, .bool s0b, u0b, .int .i64 y0b] 53)).cell? ⟨w.heap.size, 0, none⟩ = some (.bool s0) := new_cell2 _ _ _ _ _ _ (by simp) rfl
  have A0_1 : (w.alloc (.cells #[.bool s0, u0, .int .i64 y0, .bool s0b, u0b, .int .i64 y0b] 53)).cell? ⟨w.heap.size, 1, none⟩ = some (u0) := new_cell2 _ _ _ _ _ _ (by simp) rfl
  have A0_2 : (w.alloc (.cells #[.bool s0, u0, .int .i64 y0, .bool s0b, u0b, .int .i64 y0b] 53)).cell? ⟨w.heap.size, 2, none⟩ = some (.int .i64 y0) := new_cell2 _ _ _ _ _ _ (by simp) rfl
  have A0_3 : (w.alloc (.cells #[.bool s0, u0, .int .i64 y0, .bool s0b, u0b, .int .i64 y0b] 53)).cell? ⟨w.heap.size, 3, none⟩ = some (.bool s0b) := new_cell2 _ _ _ _ _ _ (by simp) rfl
  have A0_4 : (w.alloc (.cells #[.bool s0, u0, .int .i64 y0, .bool s0b, u0b, .int .i64 y0b] 53)).cell? ⟨w.heap.size, 4, none⟩ = some (u0b) := new_cell2 _ _ _ _ _ _ (by simp) rfl
  have A0_5 : (w.alloc (.cells #[.bool s0, u0, .int .i64 y0, .bool s0b, u0b, .int .i64 y0b] 53)).cell? ⟨w.heap.size, 5, none⟩ = some (.int .i64 y0b) := new_cell2 _ _ _ _ _ _ (by simp) rfl
  replace r0 := r0.kept k0 (by omega)
  replace r0b := r0b.kept k0 (by omega)
  have s0 : (w.alloc (.cells #[.bool s0, u0, .int .i64 y0, .bool s0b, u0b, .int .i64 y0b] 53)).heap.size = w.heap.size + 1 := by simp
  obtain ⟨a0, c0, hv⟩ := r0.form'
  subst hv
  obtain ⟨a0b, c0b, hv⟩ := r0b.form'
  subst hv
  have K := hide (k0)
  clear k0
  have S0 := hide s0
  clear s0
  have EB1 := hide hB1
  have EL0 := hide hL0
  clear hB1 hL0
  go_enter Try.func5, Try.ntmps5
  skip
  go_wp2_with fail
  generalize (w.alloc (.cells #[.bool s0, .slice a0 z0.length c0, .int .i64 y0, .bool s0b, .slice a0b z0b.length c0b, .int .i64 y0b] 53)) = W at *
  refine (szIv_any (s0) (y0) (s0b) (y0b) _ (1048576) (by omega) (by omega) r0 r0b).mono ?_
  rintro e w1 ⟨rfl, k1⟩
  replace r0 := r0.kept k1 (.inr (.inr (Nat.le_refl 0)))
  replace r0b := r0b.kept k1 (.inr (.inr (Nat.le_refl 0)))
  replace A0_0 := k1.cell0 A0_0
  replace A0_1 := k1.cell0 A0_1
  replace A0_2 := k1.cell0 A0_2
  replace A0_3 := k1.cell0 A0_3
  replace A0_4 := k1.cell0 A0_4
  replace A0_5 := k1.cell0 A0_5
  replace K := hide ((unhide K).trans k1)
  have z2 := k1.size
  clear k1
  by_cases big0 : ((z0.length : Int) + (z0b.length : Int)) ≤ 1048576
  rotate_left
  · rw [if_neg big0]
    go_wp2_with fail
    go_ret
    exact ⟨rfl, (unhide K).toBelow⟩
  rw [if_pos big0]
  have nb0 : ¬ (1048576 - ((z0.length : Int) + (z0b.length : Int))) < 0 := by omega
  have hn0 : z0.length ≤ 1099511627776 := by omega
  have hn0b : z0b.length ≤ 1099511627776 := by omega
  go_wp2_with fail
  refine (toIv_any (s0) (y0) (s0b) (y0b) _ hn0 hn0b r0 r0b).mono ?_
  rintro e w3 ⟨vyw0, vyw0b, mmyw0, rfl, ryw0, ryw0b, hmayw0, hmbyw0, k3⟩
  replace r0 := r0.kept k3 (.inr (.inr (Nat.le_refl 0)))
  replace r0b := r0b.kept k3 (.inr (.inr (Nat.le_refl 0)))
  replace A0_0 := k3.cell0 A0_0
  replace A0_1 := k3.cell0 A0_1
  replace A0_2 := k3.cell0 A0_2
  replace A0_3 := k3.cell0 A0_3
  replace A0_4 := k3.cell0 A0_4
  replace A0_5 := k3.cell0 A0_5
  replace K := hide ((unhide K).trans k3)
  have z4 := k3.size
  clear k3
  go_wp2_with fail
  have mk := ivText_spec s0 s0b y0 y0b gy0 gy0b w3 ryw0 ryw0b
  simp only [unhide EB1, unhide EL0] at mk
  refine (mk).mono ?_
  rintro e w5 ⟨vw0, rfl, rw0, k5⟩
  replace r0 := r0.kept k5 (.inr (.inr (Nat.le_refl 0)))
  replace r0b := r0b.kept k5 (.inr (.inr (Nat.le_refl 0)))
  replace ryw0 := ryw0.kept k5 (.inr (.inr (Nat.le_refl 0)))
  replace ryw0b := ryw0b.kept k5 (.inr (.inr (Nat.le_refl 0)))
  replace A0_0 := k5.cell0 A0_0
  replace A0_1 := k5.cell0 A0_1
  replace A0_2 := k5.cell0 A0_2
  replace A0_3 := k5.cell0 A0_3
  replace A0_4 := k5.cell0 A0_4
  replace A0_5 := k5.cell0 A0_5
  replace K := hide ((unhide K).trans k5)
  have z6 := k5.size
  clear k5
  clear mk
  clear ryw0 ryw0b
  obtain ⟨aw0, dw0, hv⟩ := Row.form' rw0
  subst hv
  go_wp2_with fail
  refine (toIv_any (s0) (y0) (s0b) (y0b) _ hn0 hn0b r0 r0b).mono ?_
  rintro e w7 ⟨vx0, vx0b, mmx0, rfl, rx0, rx0b, hmax0, hmbx0, k7⟩
  replace r0 := r0.kept k7 (.inr (.inr (Nat.le_refl 0)))
  replace r0b := r0b.kept k7 (.inr (.inr (Nat.le_refl 0)))
  replace rw0 := rw0.kept k7 (.inr (.inr (Nat.le_refl 0)))
  replace A0_0 := k7.cell0 A0_0
  replace A0_1 := k7.cell0 A0_1
  replace A0_2 := k7.cell0 A0_2
  replace A0_3 := k7.cell0 A0_3
  replace A0_4 := k7.cell0 A0_4
  replace A0_5 := k7.cell0 A0_5
  replace K := hide ((unhide K).trans k7)
  have z8 := k7.size
  clear k7
  obtain ⟨ax0, dx0, hv⟩ := Row.form' rx0
  subst hv
  obtain ⟨ax0b, dx0b, hv⟩ := Row.form' rx0b
  subst hv
  have kn := (Kept.refl 0 0 w7).alloc (.cells #[.bool s0, .slice ax0 z0.length dx0, .int .i64 y0, .bool s0b, .slice ax0b z0b.length dx0b, .int .i64 y0b] 57)
  have cx0_0 : (w7.alloc (.cells #[.bool s0, .slice ax0 z0.length dx0, .int .i64 y0, .bool s0b, .slice ax0b z0b.length dx0b, .int .i64 y0b] 57)).cell? ⟨w7.heap.size, 0, none⟩ = some (.bool s0) := new_cell2 _ _ _ _ _ _ rfl rfl
  have cx0_1 : (w7.alloc (.cells #[.bool s0, .slice ax0 z0.length dx0, .int .i64 y0, .bool s0b, .slice ax0b z0b.length dx0b, .int .i64 y0b] 57)).cell? ⟨w7.heap.size, 1, none⟩ = some (.slice ax0 z0.length dx0) := new_cell2 _ _ _ _ _ _ rfl rfl
  have cx0_2 : (w7.alloc (.cells #[.bool s0, .slice ax0 z0.length dx0, .int .i64 y0, .bool s0b, .slice ax0b z0b.length dx0b, .int .i64 y0b] 57)).cell? ⟨w7.heap.size, 2, none⟩ = some (.int .i64 y0) := new_cell2 _ _ _ _ _ _ rfl rfl
  have cx0_3 : (w7.alloc (.cells #[.bool s0, .slice ax0 z0.length dx0, .int .i64 y0, .bool s0b, .slice ax0b z0b.length dx0b, .int .i64 y0b] 57)).cell? ⟨w7.heap.size, 3, none⟩ = some (.bool s0b) := new_cell2 _ _ _ _ _ _ rfl rfl
  have cx0_4 : (w7.alloc (.cells #[.bool s0, .slice ax0 z0.length dx0, .int .i64 y0, .bool s0b, .slice ax0b z0b.length dx0b, .int .i64 y0b] 57)).cell? ⟨w7.heap.size, 4, none⟩ = some (.slice ax0b z0b.length dx0b) := new_cell2 _ _ _ _ _ _ rfl rfl
  have cx0_5 : (w7.alloc (.cells #[.bool s0, .slice ax0 z0.length dx0, .int .i64 y0, .bool s0b, .slice ax0b z0b.length dx0b, .int .i64 y0b] 57)).cell? ⟨w7.heap.size, 5, none⟩ = some (.int .i64 y0b) := new_cell2 _ _ _ _ _ _ rfl rfl
  have t9 : w7.heap.size + 1 ≤ (w7.alloc (.cells #[.bool s0, .slice ax0 z0.length dx0, .int .i64 y0, .bool s0b, .slice ax0b z0b.length dx0b, .int .i64 y0b] 57)).heap.size := by simp
  replace r0 := r0.kept kn (.inr (.inr (Nat.le_refl 0)))
  replace r0b := r0b.kept kn (.inr (.inr (Nat.le_refl 0)))
  replace rw0 := rw0.kept kn (.inr (.inr (Nat.le_refl 0)))
  replace rx0 := rx0.kept kn (.inr (.inr (Nat.le_refl 0)))
  replace rx0b := rx0b.kept kn (.inr (.inr (Nat.le_refl 0)))
  replace A0_0 := kn.cell0 A0_0
  replace A0_1 := kn.cell0 A0_1
  replace A0_2 := kn.cell0 A0_2
  replace A0_3 := kn.cell0 A0_3
  replace A0_4 := kn.cell0 A0_4
  replace A0_5 := kn.cell0 A0_5
  replace K := hide ((unhide K).trans kn)
  have z10 := kn.size
  clear kn
  go_wp2_with fail
  generalize w7.alloc (.cells #[.bool s0, .slice ax0 z0.length dx0, .int .i64 y0, .bool s0b, .slice ax0b z0b.length dx0b, .int .i64 y0b] 57) = wm9 at *
  have mk := ivText_impl s0 s0b y0 y0b gy0 gy0b wm9 rx0 rx0b
  simp only [unhide EB1, unhide EL0] at mk
  refine (mk).mono ?_
  rintro e w11 ⟨vg0, rfl, rg0, k11⟩
  replace r0 := r0.kept k11 (.inr (.inr (Nat.le_refl 0)))
  replace r0b := r0b.kept k11 (.inr (.inr (Nat.le_refl 0)))
  replace rw0 := rw0.kept k11 (.inr (.inr (Nat.le_refl 0)))
  replace rx0 := rx0.kept k11 (.inr (.inr (Nat.le_refl 0)))
  replace rx0b := rx0b.kept k11 (.inr (.inr (Nat.le_refl 0)))
  replace A0_0 := k11.cell0 A0_0
  replace A0_1 := k11.cell0 A0_1
  replace A0_2 := k11.cell0 A0_2
  replace A0_3 := k11.cell0 A0_3
  replace A0_4 := k11.cell0 A0_4
  replace A0_5 := k11.cell0 A0_5
  replace cx0_0 := k11.cell0 cx0_0
  replace cx0_1 := k11.cell0 cx0_1
  replace cx0_2 := k11.cell0 cx0_2
  replace cx0_3 := k11.cell0 cx0_3
  replace cx0_4 := k11.cell0 cx0_4
  replace cx0_5 := k11.cell0 cx0_5
  replace K := hide ((unhide K).trans k11)
  have z12 := k11.size
  clear k11
  clear mk
  obtain ⟨ag0, dg0, hv⟩ := Row.form' rg0
  subst hv
  go_wp2_with fail
  refine (eqT_same _ rg0 rw0).mono ?_
  rintro e w13 ⟨rfl, k13⟩
  replace r0 := r0.kept k13 (.inr (.inr (Nat.le_refl 0)))
  replace r0b := r0b.kept k13 (.inr (.inr (Nat.le_refl 0)))
  replace rw0 := rw0.kept k13 (.inr (.inr (Nat.le_refl 0)))
  replace rx0 := rx0.kept k13 (.inr (.inr (Nat.le_refl 0)))
  replace rx0b := rx0b.kept k13 (.inr (.inr (Nat.le_refl 0)))
  replace rg0 := rg0.kept k13 (.inr (.inr (Nat.le_refl 0)))
  replace A0_0 := k13.cell0 A0_0
  replace A0_1 := k13.cell0 A0_1
  replace A0_2 := k13.cell0 A0_2
  replace A0_3 := k13.cell0 A0_3
  replace A0_4 := k13.cell0 A0_4
  replace A0_5 := k13.cell0 A0_5
  replace cx0_0 := k13.cell0 cx0_0
  replace cx0_1 := k13.cell0 cx0_1
  replace cx0_2 := k13.cell0 cx0_2
  replace cx0_3 := k13.cell0 cx0_3
  replace cx0_4 := k13.cell0 cx0_4
  replace cx0_5 := k13.cell0 cx0_5
  replace K := hide ((unhide K).trans k13)
  have z14 := k13.size
  clear k13
  go_wp2_with fail
  have kd := (Kept.refl 0 0 w13).drew
  replace r0 := r0.kept kd (.inr (.inr (Nat.le_refl 0)))
  replace r0b := r0b.kept kd (.inr (.inr (Nat.le_refl 0)))
  replace rw0 := rw0.kept kd (.inr (.inr (Nat.le_refl 0)))
  replace rx0 := rx0.kept kd (.inr (.inr (Nat.le_refl 0)))
  replace rx0b := rx0b.kept kd (.inr (.inr (Nat.le_refl 0)))
  replace rg0 := rg0.kept kd (.inr (.inr (Nat.le_refl 0)))
  replace A0_0 := kd.cell0 A0_0
  replace A0_1 := kd.cell0 A0_1
  replace A0_2 := kd.cell0 A0_2
  replace A0_3 := kd.cell0 A0_3
  replace A0_4 := kd.cell0 A0_4
  replace A0_5 := kd.cell0 A0_5
  replace cx0_0 := kd.cell0 cx0_0
  replace cx0_1 := kd.cell0 cx0_1
  replace cx0_2 := kd.cell0 cx0_2
  replace cx0_3 := kd.cell0 cx0_3
  replace cx0_4 := kd.cell0 cx0_4
  replace cx0_5 := kd.cell0 cx0_5
  replace K := hide ((unhide K).trans kd)
  have z15 := kd.size
  clear kd
  refine wp_region_held_drew (S := (fun w' => w'.cell? ⟨w.heap.size, 0, none⟩ = some (.bool s0) ∧ w'.cell? ⟨w.heap.size, 1, none⟩ = some (.slice a0 z0.length c0) ∧ w'.cell? ⟨w.heap.size, 2, none⟩ = some (.int .i64 y0) ∧ w'.cell? ⟨w.heap.size, 3, none⟩ = some (.bool s0b) ∧ w'.cell? ⟨w.heap.size, 4, none⟩ = some (.slice a0b z0b.length c0b) ∧ w'.cell? ⟨w.heap.size, 5, none⟩ = some (.int .i64 y0b) ∧ w'.cell? ⟨w7.heap.size, 0, none⟩ = some (.bool s0) ∧ w'.cell? ⟨w7.heap.size, 1, none⟩ = some (.slice ax0 z0.length dx0) ∧ w'.cell? ⟨w7.heap.size, 2, none⟩ = some (.int .i64 y0) ∧ w'.cell? ⟨w7.heap.size, 3, none⟩ = some (.bool s0b) ∧ w'.cell? ⟨w7.heap.size, 4, none⟩ = some (.slice ax0b z0b.length dx0b) ∧ w'.cell? ⟨w7.heap.size, 5, none⟩ = some (.int .i64 y0b))) (by kernel_rfl) ?_ (fun hHeld => ?_)
  · exact ⟨A0_0, A0_1, A0_2, A0_3, A0_4, A0_5, cx0_0, cx0_1, cx0_2, cx0_3, cx0_4, cx0_5⟩
  refine wpAnyH_take (i := 0) (oi := _) (v := .agg #[.bool s0, .slice ax0 z0.length dx0, .int .i64 y0, .bool s0b, .slice ax0b z0b.length dx0b, .int .i64 y0b]) rfl (by kernel_rfl) (by kernel_rfl) (by kernel_rfl) (fun _ _ _ h => h) (Or.inl ⟨by rfl, ?_⟩) hHeld ?_
  · intro wq hSw
    try dsimp only at hSw
    go_simp
  try simp only [Act.put, List.getElem_toArray, List.getElem_cons_succ, List.getElem_cons_zero, List.setIfInBounds_toArray, List.set_cons_zero, List.set_cons_succ]
  refine wpAnyH_take (i := 1) (oi := _) (v := .agg #[.bool s0, .slice a0 z0.length c0, .int .i64 y0, .bool s0b, .slice a0b z0b.length c0b, .int .i64 y0b]) rfl (by kernel_rfl) (by kernel_rfl) (by kernel_rfl) (fun _ _ _ h => h) (Or.inl ⟨by rfl, ?_⟩) hHeld ?_
  · intro wq hSw
    try dsimp only at hSw
    go_simp
  try simp only [Act.put, List.getElem_toArray, List.getElem_cons_succ, List.getElem_cons_zero, List.setIfInBounds_toArray, List.set_cons_zero, List.set_cons_succ]
  refine wpAnyH_ready (rs := [2]) (by kernel_rfl) (by simp) ?_
  refine AllReadyH.cons rfl (fun KK hK => ?_) AllReadyH.nil
  simp only [List.getElem_toArray, List.getElem_cons_succ, List.getElem_cons_zero]
  rw [if_pos (by rfl)]
  refine wps1 24 (.tmp 42) _ rfl in_toV (.agg #[.bool s0, .slice a0 z0.length c0, .int .i64 y0, .bool s0b, .slice a0b z0b.length c0b, .int .i64 y0b]) rfl (toIv_any (s0) (y0) (s0b) (y0b) _ hn0 hn0b r0 r0b) ?_
  rintro e w16 ⟨v80, v80b, mm80, rfl, r80, r80b, hma80, hmb80, k16⟩
  refine ⟨_, rfl, ?_⟩
  replace r0 := r0.kept k16 (.inr (.inr (Nat.le_refl 0)))
  replace r0b := r0b.kept k16 (.inr (.inr (Nat.le_refl 0)))
  replace rw0 := rw0.kept k16 (.inr (.inr (Nat.le_refl 0)))
  replace rx0 := rx0.kept k16 (.inr (.inr (Nat.le_refl 0)))
  replace rx0b := rx0b.kept k16 (.inr (.inr (Nat.le_refl 0)))
  replace rg0 := rg0.kept k16 (.inr (.inr (Nat.le_refl 0)))
  replace A0_0 := k16.cell0 A0_0
  replace A0_1 := k16.cell0 A0_1
  replace A0_2 := k16.cell0 A0_2
  replace A0_3 := k16.cell0 A0_3
  replace A0_4 := k16.cell0 A0_4
  replace A0_5 := k16.cell0 A0_5
  replace cx0_0 := k16.cell0 cx0_0
  replace cx0_1 := k16.cell0 cx0_1
  replace cx0_2 := k16.cell0 cx0_2
  replace cx0_3 := k16.cell0 cx0_3
  replace cx0_4 := k16.cell0 cx0_4
  replace cx0_5 := k16.cell0 cx0_5
  replace K := hide ((unhide K).trans k16)
  have z17 := k16.size
  clear k16
  clear hHeld
  refine hK.out _ _ ?_ (fun hHeld => ?_)
  · exact ⟨A0_0, A0_1, A0_2, A0_3, A0_4, A0_5, cx0_0, cx0_1, cx0_2, cx0_3, cx0_4, cx0_5⟩
  clear hK KK
  try simp only [Act.put, List.getElem_toArray, List.getElem_cons_succ, List.getElem_cons_zero, List.setIfInBounds_toArray, List.set_cons_zero, List.set_cons_succ]
  refine wpAnyH_ready (rs := [3]) (by kernel_rfl) (by simp) ?_
  refine AllReadyH.cons rfl (fun KK hK => ?_) AllReadyH.nil
  simp only [List.getElem_toArray, List.getElem_cons_succ, List.getElem_cons_zero]
  rw [if_pos (by rfl)]
  refine wps2 26 (.tmp 41) (.tmp 43) _ rfl in_eqV (.agg #[.bool s0, .slice ax0 z0.length dx0, .int .i64 y0, .bool s0b, .slice ax0b z0b.length dx0b, .int .i64 y0b]) (.agg #[.bool s0, v80, .int .i64 y0, .bool s0b, v80b, .int .i64 y0b]) rfl rfl (eqIv_same (s0) (y0) (s0b) (y0b) _ rx0 rx0b r80 r80b) ?_
  rintro e w18 ⟨rfl, k18⟩
  refine ⟨_, rfl, ?_⟩
  replace r0 := r0.kept k18 (.inr (.inr (Nat.le_refl 0)))
  replace r0b := r0b.kept k18 (.inr (.inr (Nat.le_refl 0)))
  replace rw0 := rw0.kept k18 (.inr (.inr (Nat.le_refl 0)))
  replace rx0 := rx0.kept k18 (.inr (.inr (Nat.le_refl 0)))
  replace rx0b := rx0b.kept k18 (.inr (.inr (Nat.le_refl 0)))
  replace rg0 := rg0.kept k18 (.inr (.inr (Nat.le_refl 0)))
  replace r80 := r80.kept k18 (.inr (.inr (Nat.le_refl 0)))
  replace r80b := r80b.kept k18 (.inr (.inr (Nat.le_refl 0)))
  replace A0_0 := k18.cell0 A0_0
  replace A0_1 := k18.cell0 A0_1
  replace A0_2 := k18.cell0 A0_2
  replace A0_3 := k18.cell0 A0_3
  replace A0_4 := k18.cell0 A0_4
  replace A0_5 := k18.cell0 A0_5
  replace cx0_0 := k18.cell0 cx0_0
  replace cx0_1 := k18.cell0 cx0_1
  replace cx0_2 := k18.cell0 cx0_2
  replace cx0_3 := k18.cell0 cx0_3
  replace cx0_4 := k18.cell0 cx0_4
  replace cx0_5 := k18.cell0 cx0_5
  replace K := hide ((unhide K).trans k18)
  have z19 := k18.size
  clear k18
  clear hHeld
  refine hK.out _ _ ?_ (fun hHeld => ?_)
  · exact ⟨A0_0, A0_1, A0_2, A0_3, A0_4, A0_5, cx0_0, cx0_1, cx0_2, cx0_3, cx0_4, cx0_5⟩
  clear hK KK
  try simp only [Act.put, List.getElem_toArray, List.getElem_cons_succ, List.getElem_cons_zero, List.setIfInBounds_toArray, List.set_cons_zero, List.set_cons_succ]
  refine wpAnyH_take (i := 4) (oi := _) (v := .bool false) rfl (by kernel_rfl) (by kernel_rfl) (by kernel_rfl) (fun _ _ _ h => h) (Or.inl ⟨by rfl, ?_⟩) hHeld ?_
  · intro wq hSw
    try dsimp only at hSw
    go_simp
  try simp only [Act.put, List.getElem_toArray, List.getElem_cons_succ, List.getElem_cons_zero, List.setIfInBounds_toArray, List.set_cons_zero, List.set_cons_succ]
  refine wpAnyH_done (by kernel_rfl) ?_ _
  clear hHeld
  clear r80 r80b
  have S0' := unhide S0
  go_wp2_with fail
  refine (markIv_wide (s0) (y0) (s0b) (y0b) _ (1) (by omega) (by omega) (by omega) (by omega) hmax0 hmbx0 (by omega) rx0 rx0b).mono ?_
  rintro e w20 ⟨rfl, -, -, k20⟩
  replace r0 := r0.kept k20 (by omega)
  replace r0b := r0b.kept k20 (by omega)
  replace rw0 := rw0.kept k20 (by omega)
  replace rg0 := rg0.kept k20 (by omega)
  replace A0_0 := k20.cellOut (by dsimp only; omega) A0_0
  replace A0_1 := k20.cellOut (by dsimp only; omega) A0_1
  replace A0_2 := k20.cellOut (by dsimp only; omega) A0_2
  replace A0_3 := k20.cellOut (by dsimp only; omega) A0_3
  replace A0_4 := k20.cellOut (by dsimp only; omega) A0_4
  replace A0_5 := k20.cellOut (by dsimp only; omega) A0_5
  replace cx0_0 := k20.cellOut (by dsimp only; omega) cx0_0
  replace cx0_1 := k20.cellOut (by dsimp only; omega) cx0_1
  replace cx0_2 := k20.cellOut (by dsimp only; omega) cx0_2
  replace cx0_3 := k20.cellOut (by dsimp only; omega) cx0_3
  replace cx0_4 := k20.cellOut (by dsimp only; omega) cx0_4
  replace cx0_5 := k20.cellOut (by dsimp only; omega) cx0_5
  replace K := hide ((unhide K).wide k20 (by omega))
  have z20 := k20.size
  clear k20 rx0 rx0b
  have nk : ¬ (1 + ((z0.length : Int) + (z0b.length : Int))) < 0 := by omega
  go_wp2_with fail
  refine (eqT_same _ rg0 rw0).mono ?_
  rintro e w21 ⟨rfl, k21⟩
  replace r0 := r0.kept k21 (.inr (.inr (Nat.le_refl 0)))
  replace r0b := r0b.kept k21 (.inr (.inr (Nat.le_refl 0)))
  replace rw0 := rw0.kept k21 (.inr (.inr (Nat.le_refl 0)))
  replace rg0 := rg0.kept k21 (.inr (.inr (Nat.le_refl 0)))
  replace A0_0 := k21.cell0 A0_0
  replace A0_1 := k21.cell0 A0_1
  replace A0_2 := k21.cell0 A0_2
  replace A0_3 := k21.cell0 A0_3
  replace A0_4 := k21.cell0 A0_4
  replace A0_5 := k21.cell0 A0_5
  replace cx0_0 := k21.cell0 cx0_0
  replace cx0_1 := k21.cell0 cx0_1
  replace cx0_2 := k21.cell0 cx0_2
  replace cx0_3 := k21.cell0 cx0_3
  replace cx0_4 := k21.cell0 cx0_4
  replace cx0_5 := k21.cell0 cx0_5
  replace K := hide ((unhide K).trans k21)
  have z22 := k21.size
  clear k21
  go_wp2_with fail
  refine (markT_wide _ (1) (by omega) (by omega) hq0 rg0).mono ?_
  rintro e w23 ⟨rfl, rm0, k23⟩
  replace r0 := r0.kept k23 (by omega)
  replace r0b := r0b.kept k23 (by omega)
  replace rw0 := rw0.kept k23 (by omega)
  replace A0_0 := k23.cellOut (by dsimp only; omega) A0_0
  replace A0_1 := k23.cellOut (by dsimp only; omega) A0_1
  replace A0_2 := k23.cellOut (by dsimp only; omega) A0_2
  replace A0_3 := k23.cellOut (by dsimp only; omega) A0_3
  replace A0_4 := k23.cellOut (by dsimp only; omega) A0_4
  replace A0_5 := k23.cellOut (by dsimp only; omega) A0_5
  replace cx0_0 := k23.cellOut (by dsimp only; omega) cx0_0
  replace cx0_1 := k23.cellOut (by dsimp only; omega) cx0_1
  replace cx0_2 := k23.cellOut (by dsimp only; omega) cx0_2
  replace cx0_3 := k23.cellOut (by dsimp only; omega) cx0_3
  replace cx0_4 := k23.cellOut (by dsimp only; omega) cx0_4
  replace cx0_5 := k23.cellOut (by dsimp only; omega) cx0_5
  replace K := hide ((unhide K).wide k23 (by omega))
  have z23 := k23.size
  clear k23 rg0
  go_wp2_with fail
  refine (heldT_any _ (1) (by omega) (by omega) hq0 rm0).mono ?_
  rintro e w24 ⟨rfl, k24⟩
  replace r0 := r0.kept k24 (.inr (.inr (Nat.le_refl 0)))
  replace r0b := r0b.kept k24 (.inr (.inr (Nat.le_refl 0)))
  replace rw0 := rw0.kept k24 (.inr (.inr (Nat.le_refl 0)))
  replace rm0 := rm0.kept k24 (.inr (.inr (Nat.le_refl 0)))
  replace A0_0 := k24.cell0 A0_0
  replace A0_1 := k24.cell0 A0_1
  replace A0_2 := k24.cell0 A0_2
  replace A0_3 := k24.cell0 A0_3
  replace A0_4 := k24.cell0 A0_4
  replace A0_5 := k24.cell0 A0_5
  replace cx0_0 := k24.cell0 cx0_0
  replace cx0_1 := k24.cell0 cx0_1
  replace cx0_2 := k24.cell0 cx0_2
  replace cx0_3 := k24.cell0 cx0_3
  replace cx0_4 := k24.cell0 cx0_4
  replace cx0_5 := k24.cell0 cx0_5
  replace K := hide ((unhide K).trans k24)
  have z25 := k24.size
  clear k24
  have nq025 : ¬ (1 + (L0.length : Int)) < 0 := by omega
  go_wp2_with fail
  refine (toIv_any (s0) (y0) (s0b) (y0b) _ hn0 hn0b r0 r0b).mono ?_
  rintro e w26 ⟨vyh0, vyh0b, mmyh0, rfl, ryh0, ryh0b, hmayh0, hmbyh0, k26⟩
  replace r0 := r0.kept k26 (.inr (.inr (Nat.le_refl 0)))
  replace r0b := r0b.kept k26 (.inr (.inr (Nat.le_refl 0)))
  replace rw0 := rw0.kept k26 (.inr (.inr (Nat.le_refl 0)))
  replace rm0 := rm0.kept k26 (.inr (.inr (Nat.le_refl 0)))
  replace A0_0 := k26.cell0 A0_0
  replace A0_1 := k26.cell0 A0_1
  replace A0_2 := k26.cell0 A0_2
  replace A0_3 := k26.cell0 A0_3
  replace A0_4 := k26.cell0 A0_4
  replace A0_5 := k26.cell0 A0_5
  replace cx0_0 := k26.cell0 cx0_0
  replace cx0_1 := k26.cell0 cx0_1
  replace cx0_2 := k26.cell0 cx0_2
  replace cx0_3 := k26.cell0 cx0_3
  replace cx0_4 := k26.cell0 cx0_4
  replace cx0_5 := k26.cell0 cx0_5
  replace K := hide ((unhide K).trans k26)
  have z27 := k26.size
  clear k26
  go_wp2_with fail
  have mk := ivText_impl s0 s0b y0 y0b gy0 gy0b w26 ryh0 ryh0b
  simp only [unhide EB1, unhide EL0] at mk
  refine (mk).mono ?_
  rintro e w28 ⟨vh0, rfl, rh0, k28⟩
  replace r0 := r0.kept k28 (.inr (.inr (Nat.le_refl 0)))
  replace r0b := r0b.kept k28 (.inr (.inr (Nat.le_refl 0)))
  replace rw0 := rw0.kept k28 (.inr (.inr (Nat.le_refl 0)))
  replace rm0 := rm0.kept k28 (.inr (.inr (Nat.le_refl 0)))
  replace ryh0 := ryh0.kept k28 (.inr (.inr (Nat.le_refl 0)))
  replace ryh0b := ryh0b.kept k28 (.inr (.inr (Nat.le_refl 0)))
  replace A0_0 := k28.cell0 A0_0
  replace A0_1 := k28.cell0 A0_1
  replace A0_2 := k28.cell0 A0_2
  replace A0_3 := k28.cell0 A0_3
  replace A0_4 := k28.cell0 A0_4
  replace A0_5 := k28.cell0 A0_5
  replace cx0_0 := k28.cell0 cx0_0
  replace cx0_1 := k28.cell0 cx0_1
  replace cx0_2 := k28.cell0 cx0_2
  replace cx0_3 := k28.cell0 cx0_3
  replace cx0_4 := k28.cell0 cx0_4
  replace cx0_5 := k28.cell0 cx0_5
  replace K := hide ((unhide K).trans k28)
  have z29 := k28.size
  clear k28
  clear mk
  clear ryh0 ryh0b
  obtain ⟨ah0, dh0, hv⟩ := Row.form' rh0
  subst hv
  go_wp2_with fail
  refine (eqT_same _ rh0 rw0).mono ?_
  rintro e w30 ⟨rfl, k30⟩
  replace r0 := r0.kept k30 (.inr (.inr (Nat.le_refl 0)))
  replace r0b := r0b.kept k30 (.inr (.inr (Nat.le_refl 0)))
  replace rw0 := rw0.kept k30 (.inr (.inr (Nat.le_refl 0)))
  replace rm0 := rm0.kept k30 (.inr (.inr (Nat.le_refl 0)))
  replace rh0 := rh0.kept k30 (.inr (.inr (Nat.le_refl 0)))
  replace A0_0 := k30.cell0 A0_0
  replace A0_1 := k30.cell0 A0_1
  replace A0_2 := k30.cell0 A0_2
  replace A0_3 := k30.cell0 A0_3
  replace A0_4 := k30.cell0 A0_4
  replace A0_5 := k30.cell0 A0_5
  replace cx0_0 := k30.cell0 cx0_0
  replace cx0_1 := k30.cell0 cx0_1
  replace cx0_2 := k30.cell0 cx0_2
  replace cx0_3 := k30.cell0 cx0_3
  replace cx0_4 := k30.cell0 cx0_4
  replace cx0_5 := k30.cell0 cx0_5
  replace K := hide ((unhide K).trans k30)
  have z31 := k30.size
  clear k30
  go_wp2_with fail
  refine (heldT_any _ (1) (by omega) (by omega) hq0 rm0).mono ?_
  rintro e w32 ⟨rfl, k32⟩
  replace r0 := r0.kept k32 (.inr (.inr (Nat.le_refl 0)))
  replace r0b := r0b.kept k32 (.inr (.inr (Nat.le_refl 0)))
  replace rw0 := rw0.kept k32 (.inr (.inr (Nat.le_refl 0)))
  replace rm0 := rm0.kept k32 (.inr (.inr (Nat.le_refl 0)))
  replace rh0 := rh0.kept k32 (.inr (.inr (Nat.le_refl 0)))
  replace A0_0 := k32.cell0 A0_0
  replace A0_1 := k32.cell0 A0_1
  replace A0_2 := k32.cell0 A0_2
  replace A0_3 := k32.cell0 A0_3
  replace A0_4 := k32.cell0 A0_4
  replace A0_5 := k32.cell0 A0_5
  replace cx0_0 := k32.cell0 cx0_0
  replace cx0_1 := k32.cell0 cx0_1
  replace cx0_2 := k32.cell0 cx0_2
  replace cx0_3 := k32.cell0 cx0_3
  replace cx0_4 := k32.cell0 cx0_4
  replace cx0_5 := k32.cell0 cx0_5
  replace K := hide ((unhide K).trans k32)
  have z33 := k32.size
  clear k32
  have nq033 : ¬ (1 + (L0.length : Int)) < 0 := by omega
  go_wp2_with fail
  go_ret
  exact ⟨rfl, (unhide K).toBelow⟩

end Go.Proofs.Ytfikfmkhmojpfaa
