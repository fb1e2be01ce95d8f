/-
  The walk of the law FnExactMatText: it returns true at every argument.
-/
import Derived.Test.YtfikfmkhmojpfaaMtx3
import Derived.Test.YtfikfmkhmojpfaaBJ
import Derived.Test.YtfikfmkhmojpfaaDys4
import Derived.Test.YtfikfmkhmojpfaaBC
import Derived.Deep.DeepCutAuto
namespace Go.Proofs.Ytfikfmkhmojpfaa
open Go.RowKit
set_option linter.unusedVariables false
set_option maxRecDepth 8000
set_option linter.unusedSimpArgs false

theorem wf_MatText {n : Int} (h : (Lit.int .i64 n).wf = true) : n ≤ 9223372036854775807 ∧ -9223372036854775808 ≤ n := by
  have e : (Lit.int .i64 n).wf = (decide (IntKind.i64.min ≤ n) && decide (n ≤ IntKind.i64.max)) := rfl
  rw [e, show IntKind.i64.min = -9223372036854775808 by decide, show IntKind.i64.max = 9223372036854775807 by decide] at h
  simp at h
  omega

set_option maxHeartbeats 16000000 in
theorem law_MatText {u0 : Value} {z0 : List DE} {w : World} (y0 : Int) (r0 : Dys 0 w.heap.size w u0 z0) (q0 : WfD z0) (fy0 : (Lit.int .i64 y0).wf = true) :
    Calls Try.prog 6 #[.agg #[.int .i64 y0, u0]] w fun e w' => e = .returned (.bool true) ∧ Below w.heap.size w w' := by
  have gy0 : y0 ≤ 9223372036854775807 ∧ -9223372036854775808 ≤ y0 := wf_MatText fy0
  clear fy0
  obtain ⟨B1, hB1⟩ : ∃ B, mtB y0 z0 = B := ⟨_, rfl⟩
  obtain ⟨L0, hL0⟩ : ∃ L, mtT y0 z0 = L := ⟨_, rfl⟩
  have hn'0 : L0.length ≤ 60000 := by rw [← hL0]; exact mtT_len _ _
  have hq0 : L0.length ≤ 1099511627776 := by omega
  have sl0 := szT_len z0
  have k0 : Kept 0 0 w (w.alloc (.cells #[.int .i64 y0, u0] 63)) := ((Kept.refl 0 0 w).alloc (.cells #[.int .i64 y0, u0] 63))
  have A0_0 : (w.alloc (.cells #[.int .i64 y0, u0] 63)).cell? ⟨w.heap.size, 0, none⟩ = some (.int .i64 y0) := new_cell2 _ _ _ _ _ _ (by simp) rfl
  have A0_1 : (w.alloc (.cells #[.int .i64 y0, u0] 63)).cell? ⟨w.heap.size, 1, none⟩ = some (u0) := new_cell2 _ _ _ _ _ _ (by simp) rfl
  replace r0 := r0.kept k0 (by omega)
  have s0 : (w.alloc (.cells #[.int .i64 y0, u0] 63)).heap.size = w.heap.size + 1 := by simp
  obtain ⟨a0, c0, hv⟩ := r0.form'
  subst hv
  have K := hide (k0)
  clear k0
  have S0 := hide s0
  clear s0
  have EB1 := hide hB1
  have EL0 := hide hL0
  clear hB1 hL0
  go_enter Try.func6, Try.ntmps6
  skip
  go_wp2_with fail
  generalize (w.alloc (.cells #[.int .i64 y0, .slice a0 z0.length c0] 63)) = W at *
  refine (szMat_any (y0) _ (1048576) (by omega) (by omega) r0).mono ?_
  rintro e w1 ⟨rfl, k1⟩
  replace r0 := r0.kept k1 (.inr (.inr (Nat.le_refl 0)))
  replace A0_0 := k1.cell0 A0_0
  replace A0_1 := k1.cell0 A0_1
  replace K := hide ((unhide K).trans k1)
  have z2 := k1.size
  clear k1
  by_cases big0 : szT z0 ≤ 1048576
  rotate_left
  · rw [if_neg big0]
    go_wp2_with fail
    go_ret
    exact ⟨rfl, (unhide K).toBelow⟩
  rw [if_pos big0]
  have nb0 : ¬ (1048576 - szT z0) < 0 := by omega
  have hn0 : z0.length ≤ 1048576 := by omega
  have hl0 : ∀ i, i < z0.length → (z0.getD i de0).2.1.length ≤ 1099511627776 := fun i hi => by have := szT_each z0 i hi; omega
  go_wp2_with fail
  refine (toMat_any (y0) _ hn0 hl0 r0).mono ?_
  rintro e w3 ⟨vyw0, rfl, ryw0, k3⟩
  replace r0 := r0.kept k3 (.inr (.inr (Nat.le_refl 0)))
  replace A0_0 := k3.cell0 A0_0
  replace A0_1 := k3.cell0 A0_1
  replace K := hide ((unhide K).trans k3)
  have z4 := k3.size
  clear k3
  go_wp2_with fail
  have mk := matText_spec y0 w3 q0 ryw0.read
  simp only [unhide EB1, unhide EL0] at mk
  refine (mk).mono ?_
  rintro e w5 ⟨vw0, rfl, rw0, k5⟩
  replace r0 := r0.kept k5 (.inr (.inr (Nat.le_refl 0)))
  replace ryw0 := ryw0.kept k5 (.inr (.inr (Nat.le_refl 0)))
  replace A0_0 := k5.cell0 A0_0
  replace A0_1 := k5.cell0 A0_1
  replace K := hide ((unhide K).trans k5)
  have z6 := k5.size
  clear k5
  clear mk
  clear ryw0
  obtain ⟨aw0, dw0, hv⟩ := rw0.form'
  subst hv
  go_wp2_with fail
  refine (toMat_any (y0) _ hn0 hl0 r0).mono ?_
  rintro e w7 ⟨vx0, rfl, rx0, k7⟩
  replace r0 := r0.kept k7 (.inr (.inr (Nat.le_refl 0)))
  replace rw0 := rw0.kept k7 (.inr (.inr (Nat.le_refl 0)))
  replace A0_0 := k7.cell0 A0_0
  replace A0_1 := k7.cell0 A0_1
  replace K := hide ((unhide K).trans k7)
  have z8 := k7.size
  clear k7
  obtain ⟨ax0, dx0, hv⟩ := rx0.form'
  subst hv
  have kn := (Kept.refl 0 0 w7).alloc (.cells #[.int .i64 y0, .slice ax0 z0.length dx0] 67)
  have cx0_0 : (w7.alloc (.cells #[.int .i64 y0, .slice ax0 z0.length dx0] 67)).cell? ⟨w7.heap.size, 0, none⟩ = some (.int .i64 y0) := new_cell2 _ _ _ _ _ _ rfl rfl
  have cx0_1 : (w7.alloc (.cells #[.int .i64 y0, .slice ax0 z0.length dx0] 67)).cell? ⟨w7.heap.size, 1, none⟩ = some (.slice ax0 z0.length dx0) := new_cell2 _ _ _ _ _ _ rfl rfl
  have t9 : w7.heap.size + 1 ≤ (w7.alloc (.cells #[.int .i64 y0, .slice ax0 z0.length dx0] 67)).heap.size := by simp
  replace r0 := r0.kept kn (.inr (.inr (Nat.le_refl 0)))
  replace rw0 := rw0.kept kn (.inr (.inr (Nat.le_refl 0)))
  replace rx0 := rx0.kept kn (.inr (.inr (Nat.le_refl 0)))
  replace A0_0 := kn.cell0 A0_0
  replace A0_1 := kn.cell0 A0_1
  replace K := hide ((unhide K).trans kn)
  have z10 := kn.size
  clear kn
  go_wp2_with fail
  generalize w7.alloc (.cells #[.int .i64 y0, .slice ax0 z0.length dx0] 67) = wm9 at *
  have mk := matText_impl y0 wm9 q0 rx0.read
  simp only [unhide EB1, unhide EL0] at mk
  refine (mk).mono ?_
  rintro e w11 ⟨vg0, rfl, rg0, k11⟩
  replace r0 := r0.kept k11 (.inr (.inr (Nat.le_refl 0)))
  replace rw0 := rw0.kept k11 (.inr (.inr (Nat.le_refl 0)))
  replace rx0 := rx0.kept k11 (.inr (.inr (Nat.le_refl 0)))
  replace A0_0 := k11.cell0 A0_0
  replace A0_1 := k11.cell0 A0_1
  replace cx0_0 := k11.cell0 cx0_0
  replace cx0_1 := k11.cell0 cx0_1
  replace K := hide ((unhide K).trans k11)
  have z12 := k11.size
  clear k11
  clear mk
  obtain ⟨ag0, dg0, hv⟩ := rg0.form'
  subst hv
  go_wp2_with fail
  refine (eqT_same _ rg0 rw0).mono ?_
  rintro e w13 ⟨rfl, k13⟩
  replace r0 := r0.kept k13 (.inr (.inr (Nat.le_refl 0)))
  replace rw0 := rw0.kept k13 (.inr (.inr (Nat.le_refl 0)))
  replace rx0 := rx0.kept k13 (.inr (.inr (Nat.le_refl 0)))
  replace rg0 := rg0.kept k13 (.inr (.inr (Nat.le_refl 0)))
  replace A0_0 := k13.cell0 A0_0
  replace A0_1 := k13.cell0 A0_1
  replace cx0_0 := k13.cell0 cx0_0
  replace cx0_1 := k13.cell0 cx0_1
  replace K := hide ((unhide K).trans k13)
  have z14 := k13.size
  clear k13
  go_wp2_with fail
  have kd := (Kept.refl 0 0 w13).drew
  replace r0 := r0.kept kd (.inr (.inr (Nat.le_refl 0)))
  replace rw0 := rw0.kept kd (.inr (.inr (Nat.le_refl 0)))
  replace rx0 := rx0.kept kd (.inr (.inr (Nat.le_refl 0)))
  replace rg0 := rg0.kept kd (.inr (.inr (Nat.le_refl 0)))
  replace A0_0 := kd.cell0 A0_0
  replace A0_1 := kd.cell0 A0_1
  replace cx0_0 := kd.cell0 cx0_0
  replace cx0_1 := kd.cell0 cx0_1
  replace K := hide ((unhide K).trans kd)
  have z15 := kd.size
  clear kd
  refine wp_region_held_drew (S := (fun w' => w'.cell? ⟨w.heap.size, 0, none⟩ = some (.int .i64 y0) ∧ w'.cell? ⟨w.heap.size, 1, none⟩ = some (.slice a0 z0.length c0) ∧ w'.cell? ⟨w7.heap.size, 0, none⟩ = some (.int .i64 y0) ∧ w'.cell? ⟨w7.heap.size, 1, none⟩ = some (.slice ax0 z0.length dx0))) (by kernel_rfl) ?_ (fun hHeld => ?_)
  · exact ⟨A0_0, A0_1, cx0_0, cx0_1⟩
  refine wpAnyH_take (i := 0) (oi := _) (v := .agg #[.int .i64 y0, .slice ax0 z0.length dx0]) rfl (by kernel_rfl) (by kernel_rfl) (by kernel_rfl) (fun _ _ _ h => h) (Or.inl ⟨by rfl, ?_⟩) hHeld ?_
  · intro wq hSw
    try dsimp only at hSw
    go_simp
  try simp only [Act.put, List.getElem_toArray, List.getElem_cons_succ, List.getElem_cons_zero, List.setIfInBounds_toArray, List.set_cons_zero, List.set_cons_succ]
  refine wpAnyH_take (i := 1) (oi := _) (v := .agg #[.int .i64 y0, .slice a0 z0.length c0]) rfl (by kernel_rfl) (by kernel_rfl) (by kernel_rfl) (fun _ _ _ h => h) (Or.inl ⟨by rfl, ?_⟩) hHeld ?_
  · intro wq hSw
    try dsimp only at hSw
    go_simp
  try simp only [Act.put, List.getElem_toArray, List.getElem_cons_succ, List.getElem_cons_zero, List.setIfInBounds_toArray, List.set_cons_zero, List.set_cons_succ]
  refine wpAnyH_ready (rs := [2]) (by kernel_rfl) (by simp) ?_
  refine AllReadyH.cons rfl (fun KK hK => ?_) AllReadyH.nil
  simp only [List.getElem_toArray, List.getElem_cons_succ, List.getElem_cons_zero]
  rw [if_pos (by rfl)]
  refine wps1 30 (.tmp 42) _ rfl in_toM (.agg #[.int .i64 y0, .slice a0 z0.length c0]) rfl (toMat_any (y0) _ hn0 hl0 r0) ?_
  rintro e w16 ⟨v80, rfl, r80, k16⟩
  refine ⟨_, rfl, ?_⟩
  replace r0 := r0.kept k16 (.inr (.inr (Nat.le_refl 0)))
  replace rw0 := rw0.kept k16 (.inr (.inr (Nat.le_refl 0)))
  replace rx0 := rx0.kept k16 (.inr (.inr (Nat.le_refl 0)))
  replace rg0 := rg0.kept k16 (.inr (.inr (Nat.le_refl 0)))
  replace A0_0 := k16.cell0 A0_0
  replace A0_1 := k16.cell0 A0_1
  replace cx0_0 := k16.cell0 cx0_0
  replace cx0_1 := k16.cell0 cx0_1
  replace K := hide ((unhide K).trans k16)
  have z17 := k16.size
  clear k16
  clear hHeld
  refine hK.out _ _ ?_ (fun hHeld => ?_)
  · exact ⟨A0_0, A0_1, cx0_0, cx0_1⟩
  clear hK KK
  try simp only [Act.put, List.getElem_toArray, List.getElem_cons_succ, List.getElem_cons_zero, List.setIfInBounds_toArray, List.set_cons_zero, List.set_cons_succ]
  refine wpAnyH_ready (rs := [3]) (by kernel_rfl) (by simp) ?_
  refine AllReadyH.cons rfl (fun KK hK => ?_) AllReadyH.nil
  simp only [List.getElem_toArray, List.getElem_cons_succ, List.getElem_cons_zero]
  rw [if_pos (by rfl)]
  refine wps2 32 (.tmp 41) (.tmp 43) _ rfl in_eqM (.agg #[.int .i64 y0, .slice ax0 z0.length dx0]) (.agg #[.int .i64 y0, v80]) rfl rfl (eqMat_same (y0) _ rx0.read r80.read) ?_
  rintro e w18 ⟨rfl, k18⟩
  refine ⟨_, rfl, ?_⟩
  replace r0 := r0.kept k18 (.inr (.inr (Nat.le_refl 0)))
  replace rw0 := rw0.kept k18 (.inr (.inr (Nat.le_refl 0)))
  replace rx0 := rx0.kept k18 (.inr (.inr (Nat.le_refl 0)))
  replace rg0 := rg0.kept k18 (.inr (.inr (Nat.le_refl 0)))
  replace r80 := r80.kept k18 (.inr (.inr (Nat.le_refl 0)))
  replace A0_0 := k18.cell0 A0_0
  replace A0_1 := k18.cell0 A0_1
  replace cx0_0 := k18.cell0 cx0_0
  replace cx0_1 := k18.cell0 cx0_1
  replace K := hide ((unhide K).trans k18)
  have z19 := k18.size
  clear k18
  clear hHeld
  refine hK.out _ _ ?_ (fun hHeld => ?_)
  · exact ⟨A0_0, A0_1, cx0_0, cx0_1⟩
  clear hK KK
  try simp only [Act.put, List.getElem_toArray, List.getElem_cons_succ, List.getElem_cons_zero, List.setIfInBounds_toArray, List.set_cons_zero, List.set_cons_succ]
  refine wpAnyH_take (i := 4) (oi := _) (v := .bool false) rfl (by kernel_rfl) (by kernel_rfl) (by kernel_rfl) (fun _ _ _ h => h) (Or.inl ⟨by rfl, ?_⟩) hHeld ?_
  · intro wq hSw
    try dsimp only at hSw
    go_simp
  try simp only [Act.put, List.getElem_toArray, List.getElem_cons_succ, List.getElem_cons_zero, List.setIfInBounds_toArray, List.set_cons_zero, List.set_cons_succ]
  refine wpAnyH_done (by kernel_rfl) ?_ _
  clear hHeld
  clear r80
  have S0' := unhide S0
  go_wp2_with fail
  refine (markMat_wide (y0) _ (1) (by omega) (by omega) (by omega) rx0).mono ?_
  rintro e w20 ⟨rfl, -, k20⟩
  replace r0 := r0.kept k20 (by omega)
  replace rw0 := rw0.kept k20 (by omega)
  replace rg0 := rg0.kept k20 (by omega)
  replace A0_0 := k20.cellOut (by dsimp only; omega) A0_0
  replace A0_1 := k20.cellOut (by dsimp only; omega) A0_1
  replace cx0_0 := k20.cellOut (by dsimp only; omega) cx0_0
  replace cx0_1 := k20.cellOut (by dsimp only; omega) cx0_1
  replace K := hide ((unhide K).wide k20 (by omega))
  have z20 := k20.size
  clear k20 rx0
  have kg0 := kAt_ge z0 (1) z0.length (by omega)
  have kh0 := kAt_le z0 (1)
  have nk : ¬ (kAt z0 (1) z0.length) < 0 := by omega
  go_wp2_with fail
  refine (eqT_same _ rg0 rw0).mono ?_
  rintro e w21 ⟨rfl, k21⟩
  replace r0 := r0.kept k21 (.inr (.inr (Nat.le_refl 0)))
  replace rw0 := rw0.kept k21 (.inr (.inr (Nat.le_refl 0)))
  replace rg0 := rg0.kept k21 (.inr (.inr (Nat.le_refl 0)))
  replace A0_0 := k21.cell0 A0_0
  replace A0_1 := k21.cell0 A0_1
  replace cx0_0 := k21.cell0 cx0_0
  replace cx0_1 := k21.cell0 cx0_1
  replace K := hide ((unhide K).trans k21)
  have z22 := k21.size
  clear k21
  go_wp2_with fail
  refine (markT_wide _ (1) (by omega) (by omega) hq0 rg0).mono ?_
  rintro e w23 ⟨rfl, rm0, k23⟩
  replace r0 := r0.kept k23 (by omega)
  replace rw0 := rw0.kept k23 (by omega)
  replace A0_0 := k23.cellOut (by dsimp only; omega) A0_0
  replace A0_1 := k23.cellOut (by dsimp only; omega) A0_1
  replace cx0_0 := k23.cellOut (by dsimp only; omega) cx0_0
  replace cx0_1 := k23.cellOut (by dsimp only; omega) cx0_1
  replace K := hide ((unhide K).wide k23 (by omega))
  have z23 := k23.size
  clear k23 rg0
  go_wp2_with fail
  refine (heldT_any _ (1) (by omega) (by omega) hq0 rm0).mono ?_
  rintro e w24 ⟨rfl, k24⟩
  replace r0 := r0.kept k24 (.inr (.inr (Nat.le_refl 0)))
  replace rw0 := rw0.kept k24 (.inr (.inr (Nat.le_refl 0)))
  replace rm0 := rm0.kept k24 (.inr (.inr (Nat.le_refl 0)))
  replace A0_0 := k24.cell0 A0_0
  replace A0_1 := k24.cell0 A0_1
  replace cx0_0 := k24.cell0 cx0_0
  replace cx0_1 := k24.cell0 cx0_1
  replace K := hide ((unhide K).trans k24)
  have z25 := k24.size
  clear k24
  have nq025 : ¬ (1 + (L0.length : Int)) < 0 := by omega
  go_wp2_with fail
  refine (toMat_any (y0) _ hn0 hl0 r0).mono ?_
  rintro e w26 ⟨vyh0, rfl, ryh0, k26⟩
  replace r0 := r0.kept k26 (.inr (.inr (Nat.le_refl 0)))
  replace rw0 := rw0.kept k26 (.inr (.inr (Nat.le_refl 0)))
  replace rm0 := rm0.kept k26 (.inr (.inr (Nat.le_refl 0)))
  replace A0_0 := k26.cell0 A0_0
  replace A0_1 := k26.cell0 A0_1
  replace cx0_0 := k26.cell0 cx0_0
  replace cx0_1 := k26.cell0 cx0_1
  replace K := hide ((unhide K).trans k26)
  have z27 := k26.size
  clear k26
  go_wp2_with fail
  have mk := matText_impl y0 w26 q0 ryh0.read
  simp only [unhide EB1, unhide EL0] at mk
  refine (mk).mono ?_
  rintro e w28 ⟨vh0, rfl, rh0, k28⟩
  replace r0 := r0.kept k28 (.inr (.inr (Nat.le_refl 0)))
  replace rw0 := rw0.kept k28 (.inr (.inr (Nat.le_refl 0)))
  replace rm0 := rm0.kept k28 (.inr (.inr (Nat.le_refl 0)))
  replace ryh0 := ryh0.kept k28 (.inr (.inr (Nat.le_refl 0)))
  replace A0_0 := k28.cell0 A0_0
  replace A0_1 := k28.cell0 A0_1
  replace cx0_0 := k28.cell0 cx0_0
  replace cx0_1 := k28.cell0 cx0_1
  replace K := hide ((unhide K).trans k28)
  have z29 := k28.size
  clear k28
  clear mk
  clear ryh0
  obtain ⟨ah0, dh0, hv⟩ := rh0.form'
  subst hv
  go_wp2_with fail
  refine (eqT_same _ rh0 rw0).mono ?_
  rintro e w30 ⟨rfl, k30⟩
  replace r0 := r0.kept k30 (.inr (.inr (Nat.le_refl 0)))
  replace rw0 := rw0.kept k30 (.inr (.inr (Nat.le_refl 0)))
  replace rm0 := rm0.kept k30 (.inr (.inr (Nat.le_refl 0)))
  replace rh0 := rh0.kept k30 (.inr (.inr (Nat.le_refl 0)))
  replace A0_0 := k30.cell0 A0_0
  replace A0_1 := k30.cell0 A0_1
  replace cx0_0 := k30.cell0 cx0_0
  replace cx0_1 := k30.cell0 cx0_1
  replace K := hide ((unhide K).trans k30)
  have z31 := k30.size
  clear k30
  go_wp2_with fail
  refine (heldT_any _ (1) (by omega) (by omega) hq0 rm0).mono ?_
  rintro e w32 ⟨rfl, k32⟩
  replace r0 := r0.kept k32 (.inr (.inr (Nat.le_refl 0)))
  replace rw0 := rw0.kept k32 (.inr (.inr (Nat.le_refl 0)))
  replace rm0 := rm0.kept k32 (.inr (.inr (Nat.le_refl 0)))
  replace rh0 := rh0.kept k32 (.inr (.inr (Nat.le_refl 0)))
  replace A0_0 := k32.cell0 A0_0
  replace A0_1 := k32.cell0 A0_1
  replace cx0_0 := k32.cell0 cx0_0
  replace cx0_1 := k32.cell0 cx0_1
  replace K := hide ((unhide K).trans k32)
  have z33 := k32.size
  clear k32
  have nq033 : ¬ (1 + (L0.length : Int)) < 0 := by omega
  go_wp2_with fail
  go_ret
  exact ⟨rfl, (unhide K).toBelow⟩

end Go.Proofs.Ytfikfmkhmojpfaa
