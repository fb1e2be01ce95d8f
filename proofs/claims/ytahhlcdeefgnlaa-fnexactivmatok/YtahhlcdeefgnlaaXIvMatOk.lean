/-
  The walk of the law FnExactIvMatOk: it returns true at every argument.
-/
import Derived.Test.YtahhlcdeefgnlaaIvM1
import Derived.Test.YtahhlcdeefgnlaaBJ
import Derived.Test.YtahhlcdeefgnlaaBC
import Derived.Deep.DeepCutAuto
namespace Go.Proofs.Ytahhlcdeefgnlaa
open Go.RowKit
set_option linter.unusedVariables false
set_option maxRecDepth 8000
set_option linter.unusedSimpArgs false

theorem wf_IvMatOk {n : Int} (h : (Lit.int .i64 n).wf = true) : n ≤ 9223372036854775807 ∧ -9223372036854775808 ≤ n := by
  have e : (Lit.int .i64 n).wf = (decide (IntKind.i64.min ≤ n) && decide (n ≤ IntKind.i64.max)) := rfl
  rw [e, show IntKind.i64.min = -9223372036854775808 by decide, show IntKind.i64.max = 9223372036854775807 by decide] at h
  simp at h
  omega

set_option maxHeartbeats 16000000 in
theorem law_IvMatOk {u0 : Value} {z0 : List DE} {m0 : Nat} {w : World} (y0 : Int) (r0 : Ivs 0 w.heap.size w u0 z0 m0) (q0 : WfD z0) (fy0 : (Lit.int .i64 y0).wf = true) :
    Calls Try.prog 3 #[.agg #[.int .i64 y0, u0]] w fun e w' => e = .returned (.bool true) ∧ Below w.heap.size w w' := by
  have gy0 : y0 ≤ 9223372036854775807 ∧ -9223372036854775808 ≤ y0 := wf_IvMatOk fy0
  clear fy0
  obtain ⟨B0, hB0⟩ : ∃ B, imokB y0 z0 m0 = B := ⟨_, rfl⟩
  have sl0 := szV_len z0 m0
  have k0 : Kept 0 0 w (w.alloc (.cells #[.int .i64 y0, u0] 24)) := ((Kept.refl 0 0 w).alloc (.cells #[.int .i64 y0, u0] 24))
  have A0_0 : (w.alloc (.cells #[.int .i64 y0, u0] 24)).cell? ⟨w.heap.size, 0, none⟩ = some (.int .i64 y0) := new_cell2 _ _ _ _ _ _ (by simp) rfl
  have A0_1 : (w.alloc (.cells #[.int .i64 y0, u0] 24)).cell? ⟨w.heap.size, 1, none⟩ = some (u0) := new_cell2 _ _ _ _ _ _ (by simp) rfl
  replace r0 := r0.kept k0 (by omega)
  have s0 : (w.alloc (.cells #[.int .i64 y0, u0] 24)).heap.size = w.heap.size + 1 := by simp
  obtain ⟨a0, c0, hv⟩ := r0.form'
  subst hv
  have K := hide (k0)
  clear k0
  have S0 := hide s0
  clear s0
  have EB0 := hide hB0
  clear hB0
  go_enter Try.func3, Try.ntmps3
  skip
  go_wp2_with fail
  generalize (w.alloc (.cells #[.int .i64 y0, .slice a0 m0 c0] 24)) = W at *
  refine (szIvMat_any (y0) _ (1048576) (by omega) (by omega) r0).mono ?_
  rintro e w1 ⟨rfl, k1⟩
  replace r0 := r0.kept k1 (.inr (.inr (Nat.le_refl 0)))
  replace A0_0 := k1.cell0 A0_0
  replace A0_1 := k1.cell0 A0_1
  replace K := hide ((unhide K).trans k1)
  have z2 := k1.size
  clear k1
  by_cases big0 : szV z0 m0 ≤ 1048576
  rotate_left
  · rw [if_neg big0]
    go_wp2_with fail
    go_ret
    exact ⟨rfl, (unhide K).toBelow⟩
  rw [if_pos big0]
  have nb0 : ¬ (1048576 - szV z0 m0) < 0 := by omega
  have hn0 : m0 ≤ 1048576 := by omega
  have hl0 : ∀ i, i < 2 * m0 → (z0.getD i de0).2.1.length ≤ 1099511627776 := fun i hi => by have := szV_each z0 m0 i hi; omega
  go_wp2_with fail
  refine (toIvMat_any (y0) _ hn0 hl0 r0).mono ?_
  rintro e w3 ⟨vyw0, rfl, ryw0, k3⟩
  replace r0 := r0.kept k3 (.inr (.inr (Nat.le_refl 0)))
  replace A0_0 := k3.cell0 A0_0
  replace A0_1 := k3.cell0 A0_1
  replace K := hide ((unhide K).trans k3)
  have z4 := k3.size
  clear k3
  go_wp2_with fail
  have mk := ivMatOk_spec y0 w3 q0 ryw0
  simp only [unhide EB0] at mk
  refine (mk).mono ?_
  rintro e w5 ⟨rfl, k5⟩
  replace r0 := r0.kept k5 (.inr (.inr (Nat.le_refl 0)))
  replace ryw0 := ryw0.kept k5 (.inr (.inr (Nat.le_refl 0)))
  replace A0_0 := k5.cell0 A0_0
  replace A0_1 := k5.cell0 A0_1
  replace K := hide ((unhide K).trans k5)
  have z6 := k5.size
  clear k5
  clear mk
  clear ryw0
  go_wp2_with fail
  refine (toIvMat_any (y0) _ hn0 hl0 r0).mono ?_
  rintro e w7 ⟨vx0, rfl, rx0, k7⟩
  replace r0 := r0.kept k7 (.inr (.inr (Nat.le_refl 0)))
  replace A0_0 := k7.cell0 A0_0
  replace A0_1 := k7.cell0 A0_1
  replace K := hide ((unhide K).trans k7)
  have z8 := k7.size
  clear k7
  obtain ⟨ax0, dx0, hv⟩ := rx0.form'
  subst hv
  have kn := (Kept.refl 0 0 w7).alloc (.cells #[.int .i64 y0, .slice ax0 m0 dx0] 29)
  have cx0_0 : (w7.alloc (.cells #[.int .i64 y0, .slice ax0 m0 dx0] 29)).cell? ⟨w7.heap.size, 0, none⟩ = some (.int .i64 y0) := new_cell2 _ _ _ _ _ _ rfl rfl
  have cx0_1 : (w7.alloc (.cells #[.int .i64 y0, .slice ax0 m0 dx0] 29)).cell? ⟨w7.heap.size, 1, none⟩ = some (.slice ax0 m0 dx0) := new_cell2 _ _ _ _ _ _ rfl rfl
  have t9 : w7.heap.size + 1 ≤ (w7.alloc (.cells #[.int .i64 y0, .slice ax0 m0 dx0] 29)).heap.size := by simp
  replace r0 := r0.kept kn (.inr (.inr (Nat.le_refl 0)))
  replace rx0 := rx0.kept kn (.inr (.inr (Nat.le_refl 0)))
  replace A0_0 := kn.cell0 A0_0
  replace A0_1 := kn.cell0 A0_1
  replace K := hide ((unhide K).trans kn)
  have z10 := kn.size
  clear kn
  go_wp2_with fail
  generalize w7.alloc (.cells #[.int .i64 y0, .slice ax0 m0 dx0] 29) = wm9 at *
  have mk := ivMatOk_impl y0 wm9 q0 rx0
  simp only [unhide EB0] at mk
  refine (mk).mono ?_
  rintro e w11 ⟨rfl, k11⟩
  replace r0 := r0.kept k11 (.inr (.inr (Nat.le_refl 0)))
  replace rx0 := rx0.kept k11 (.inr (.inr (Nat.le_refl 0)))
  replace A0_0 := k11.cell0 A0_0
  replace A0_1 := k11.cell0 A0_1
  replace cx0_0 := k11.cell0 cx0_0
  replace cx0_1 := k11.cell0 cx0_1
  replace K := hide ((unhide K).trans k11)
  have z12 := k11.size
  clear k11
  clear mk
  go_wp2_with fail
  have kd := (Kept.refl 0 0 w11).drew
  replace r0 := r0.kept kd (.inr (.inr (Nat.le_refl 0)))
  replace rx0 := rx0.kept kd (.inr (.inr (Nat.le_refl 0)))
  replace A0_0 := kd.cell0 A0_0
  replace A0_1 := kd.cell0 A0_1
  replace cx0_0 := kd.cell0 cx0_0
  replace cx0_1 := kd.cell0 cx0_1
  replace K := hide ((unhide K).trans kd)
  have z13 := kd.size
  clear kd
  refine wp_region_held_drew (S := (fun w' => w'.cell? ⟨w.heap.size, 0, none⟩ = some (.int .i64 y0) ∧ w'.cell? ⟨w.heap.size, 1, none⟩ = some (.slice a0 m0 c0) ∧ w'.cell? ⟨w7.heap.size, 0, none⟩ = some (.int .i64 y0) ∧ w'.cell? ⟨w7.heap.size, 1, none⟩ = some (.slice ax0 m0 dx0))) (by kernel_rfl) ?_ (fun hHeld => ?_)
  · exact ⟨A0_0, A0_1, cx0_0, cx0_1⟩
  refine wpAnyH_take (i := 0) (oi := _) (v := .agg #[.int .i64 y0, .slice ax0 m0 dx0]) rfl (by kernel_rfl) (by kernel_rfl) (by kernel_rfl) (fun _ _ _ h => h) (Or.inl ⟨by rfl, ?_⟩) hHeld ?_
  · intro wq hSw
    try dsimp only at hSw
    go_simp
  try simp only [Act.put, List.getElem_toArray, List.getElem_cons_succ, List.getElem_cons_zero, List.setIfInBounds_toArray, List.set_cons_zero, List.set_cons_succ]
  refine wpAnyH_take (i := 1) (oi := _) (v := .agg #[.int .i64 y0, .slice a0 m0 c0]) rfl (by kernel_rfl) (by kernel_rfl) (by kernel_rfl) (fun _ _ _ h => h) (Or.inl ⟨by rfl, ?_⟩) hHeld ?_
  · intro wq hSw
    try dsimp only at hSw
    go_simp
  try simp only [Act.put, List.getElem_toArray, List.getElem_cons_succ, List.getElem_cons_zero, List.setIfInBounds_toArray, List.set_cons_zero, List.set_cons_succ]
  refine wpAnyH_ready (rs := [2]) (by kernel_rfl) (by simp) ?_
  refine AllReadyH.cons rfl (fun KK hK => ?_) AllReadyH.nil
  simp only [List.getElem_toArray, List.getElem_cons_succ, List.getElem_cons_zero]
  rw [if_pos (by rfl)]
  refine wps1 7 (.tmp 23) _ rfl in_toIM (.agg #[.int .i64 y0, .slice a0 m0 c0]) rfl (toIvMat_any (y0) _ hn0 hl0 r0) ?_
  rintro e w14 ⟨v80, rfl, r80, k14⟩
  refine ⟨_, rfl, ?_⟩
  replace r0 := r0.kept k14 (.inr (.inr (Nat.le_refl 0)))
  replace rx0 := rx0.kept k14 (.inr (.inr (Nat.le_refl 0)))
  replace A0_0 := k14.cell0 A0_0
  replace A0_1 := k14.cell0 A0_1
  replace cx0_0 := k14.cell0 cx0_0
  replace cx0_1 := k14.cell0 cx0_1
  replace K := hide ((unhide K).trans k14)
  have z15 := k14.size
  clear k14
  clear hHeld
  refine hK.out _ _ ?_ (fun hHeld => ?_)
  · exact ⟨A0_0, A0_1, cx0_0, cx0_1⟩
  clear hK KK
  try simp only [Act.put, List.getElem_toArray, List.getElem_cons_succ, List.getElem_cons_zero, List.setIfInBounds_toArray, List.set_cons_zero, List.set_cons_succ]
  refine wpAnyH_ready (rs := [3]) (by kernel_rfl) (by simp) ?_
  refine AllReadyH.cons rfl (fun KK hK => ?_) AllReadyH.nil
  simp only [List.getElem_toArray, List.getElem_cons_succ, List.getElem_cons_zero]
  rw [if_pos (by rfl)]
  refine wps2 9 (.tmp 22) (.tmp 24) _ rfl in_eqIM (.agg #[.int .i64 y0, .slice ax0 m0 dx0]) (.agg #[.int .i64 y0, v80]) rfl rfl (eqIvMat_same (y0) _ rx0 r80) ?_
  rintro e w16 ⟨rfl, k16⟩
  refine ⟨_, rfl, ?_⟩
  replace r0 := r0.kept k16 (.inr (.inr (Nat.le_refl 0)))
  replace rx0 := rx0.kept k16 (.inr (.inr (Nat.le_refl 0)))
  replace r80 := r80.kept k16 (.inr (.inr (Nat.le_refl 0)))
  replace A0_0 := k16.cell0 A0_0
  replace A0_1 := k16.cell0 A0_1
  replace cx0_0 := k16.cell0 cx0_0
  replace cx0_1 := k16.cell0 cx0_1
  replace K := hide ((unhide K).trans k16)
  have z17 := k16.size
  clear k16
  clear hHeld
  refine hK.out _ _ ?_ (fun hHeld => ?_)
  · exact ⟨A0_0, A0_1, cx0_0, cx0_1⟩
  clear hK KK
  try simp only [Act.put, List.getElem_toArray, List.getElem_cons_succ, List.getElem_cons_zero, List.setIfInBounds_toArray, List.set_cons_zero, List.set_cons_succ]
  refine wpAnyH_take (i := 4) (oi := _) (v := .bool false) rfl (by kernel_rfl) (by kernel_rfl) (by kernel_rfl) (fun _ _ _ h => h) (Or.inl ⟨by rfl, ?_⟩) hHeld ?_
  · intro wq hSw
    try dsimp only at hSw
    go_simp
  try simp only [Act.put, List.getElem_toArray, List.getElem_cons_succ, List.getElem_cons_zero, List.setIfInBounds_toArray, List.set_cons_zero, List.set_cons_succ]
  refine wpAnyH_done (by kernel_rfl) ?_ _
  clear hHeld
  clear r80
  have S0' := unhide S0
  go_wp2_with fail
  go_ret
  exact ⟨rfl, (unhide K).toBelow⟩

end Go.Proofs.Ytahhlcdeefgnlaa
