/-
  A matrix that came in, opened: its size, and its numbers as a list that can be read.
-/
import Derived.Test.YthahoabkehcgbaaGreatDoorqoLwX
import Derived.Test.YthahoabkehcgbaaGreatDoorqoIvs2
import Derived.Test.YthahoabkehcgbaaGreatDoorqoDys4
import Derived.Test.YthahoabkehcgbaaGreatDoorqoBJ
import Derived.Test.YthahoabkehcgbaaGreatDoorqoBC
import Derived.Deep.DeepCutAuto
import Derived.Test.YthahoabkehcgbaaGreatDoorqoBA
import Derived.ProofKit
import Derived.OpenShut
import Derived.Carry
import Derived.WalkSmall
import Derived.ChangeSame
import Derived.Test.YthahoabkehcgbaaGreatDoorRows
import Derived.Test.YthahoabkehcgbaaGreatDoorqoIWCmp
namespace Go.Proofs.YthahoabkehcgbaaGreatDoor
open Go.RowKit
set_option linter.unusedVariables false
set_option maxRecDepth 8000
set_option linter.unusedSimpArgs false

theorem wf_IvMatOut {n : Int} (h : (Lit.int .i64 n).wf = true) : n ≤ 9223372036854775807 ∧ -9223372036854775808 ≤ n := by
  have e : (Lit.int .i64 n).wf = (decide (IntKind.i64.min ≤ n) && decide (n ≤ IntKind.i64.max)) := rfl
  rw [e, show IntKind.i64.min = -9223372036854775808 by decide, show IntKind.i64.max = 9223372036854775807 by decide] at h
  simp at h
  omega

set_option maxHeartbeats 16000000 in
theorem law_IvMatOut {u0 : Value} {z0 : List DE} {m0 : Nat} {w : World} (y0 : Int) (r0 : Ivs 0 w.heap.size w u0 z0 m0) (q0 : WfD z0) (fy0 : (Lit.int .i64 y0).wf = true) (p1 : Int) (f1 : (Lit.int .i64 p1).wf = true) (T : TabB w) :
    Calls Tryz.prog 6 #[.agg #[.int .i64 y0, u0], .int .i64 p1] w fun e w' => e = .returned (.bool true) ∧ Below w.heap.size w w' := by
  have gy0 : y0 ≤ 9223372036854775807 ∧ -9223372036854775808 ≤ y0 := wf_IvMatOut fy0
  clear fy0
  have g1 : p1 ≤ 9223372036854775807 ∧ -9223372036854775808 ≤ p1 := wf_IvMatOut f1
  clear f1
  obtain ⟨B1, hB1⟩ : ∃ B, hwB (outC y0 z0 m0 p1) (outV p1 z0) (-3000) y0 = B := ⟨_, rfl⟩
  obtain ⟨C0, hC0⟩ : ∃ C, hwC (outC y0 z0 m0 p1) (outV p1 z0) (-3000) y0 = C := ⟨_, rfl⟩
  obtain ⟨L0, hL0⟩ : ∃ L, hwL (outC y0 z0 m0 p1) (outV p1 z0) (-3000) y0 = L := ⟨_, rfl⟩
  obtain ⟨H0, hH0⟩ : ∃ H, hwN (outC y0 z0 m0 p1) (outV p1 z0) (-3000) y0 = H := ⟨_, rfl⟩
  have hs0 : szT L0 ≤ 4000 := by rw [← hL0]; exact (hw_sz outC_n)
  have sl'0 := szT_len L0
  have kg'0 := kAt_ge L0 1 L0.length (by omega)
  have kh'0 := kAt_le L0 1
  have sl0 := szV_len z0 m0
  have sy0 := szT_szV r0.len
  have k0 : Kept 0 0 w (w.alloc (.cells #[.int .i64 y0, u0] 24)) := ((Kept.refl 0 0 w).alloc (.cells #[.int .i64 y0, u0] 24))
  have A0_0 : (w.alloc (.cells #[.int .i64 y0, u0] 24)).cell? ⟨w.heap.size, 0, none⟩ = some (.int .i64 y0) := new_cell2 _ _ _ _ _ _ (by simp) rfl
  have A0_1 : (w.alloc (.cells #[.int .i64 y0, u0] 24)).cell? ⟨w.heap.size, 1, none⟩ = some (u0) := new_cell2 _ _ _ _ _ _ (by simp) rfl
  replace r0 := r0.kept k0 (by omega)
  have s0 : (w.alloc (.cells #[.int .i64 y0, u0] 24)).heap.size = w.heap.size + 1 := by simp
  obtain ⟨a0, c0, hv⟩ := r0.form'
  subst hv
  have K := hide (k0)
  clear k0
  have S0 := hide s0
  clear s0
  have EB1 := hide hB1
  have EC0 := hide hC0
  have EL0 := hide hL0
  have EH0 := hide hH0
  clear hB1 hC0 hL0 hH0
  go_enter Tryz.func6, Tryz.ntmps6
  skip
  go_wp2_with fail
  generalize (w.alloc (.cells #[.int .i64 y0, .slice a0 m0 c0] 24)) = W at *
  refine (szIvMat_any (y0) _ (1048576) (by omega) (by omega) r0).mono ?_
  rintro e w1 ⟨rfl, k1⟩
  replace r0 := r0.kept k1 (.inr (.inr (Nat.le_refl 0)))
  replace A0_0 := k1.cell0 A0_0
  replace A0_1 := k1.cell0 A0_1
  replace K := hide ((unhide K).trans k1)
  have z2 := k1.size
  clear k1
  by_cases big0 : szV z0 m0 ≤ 1048576
  rotate_left
  · rw [if_neg big0]
    go_wp2_with fail
    go_ret
    exact ⟨rfl, (unhide K).toBelow⟩
  rw [if_pos big0]
  have nb0 : ¬ (1048576 - szV z0 m0) < 0 := by omega
  have hn0 : m0 ≤ 1048576 := by omega
  have hl0 : ∀ i, i < 2 * m0 → (z0.getD i de0).2.1.length ≤ 1099511627776 := fun i hi => by have := szV_each z0 m0 i hi; omega
  go_wp2_with fail
  refine (toIvMat_own (y0) _ hn0 hl0 r0).mono ?_
  rintro e w3 ⟨vyw0, rfl, ryw0, k3⟩
  replace r0 := r0.kept k3 (.inr (.inr (Nat.le_refl 0)))
  replace A0_0 := k3.cell0 A0_0
  replace A0_1 := k3.cell0 A0_1
  replace K := hide ((unhide K).trans k3)
  have z4 := k3.size
  clear k3
  go_wp2_with fail
  have mk := ivMatOut_spec y0 p1 w3 q0 ryw0.read
  simp only [unhide EB1, unhide EC0, unhide EL0, unhide EH0] at mk
  refine (mk).mono ?_
  rintro e w5 ⟨vw0, rfl, rw0, k5⟩
  replace r0 := r0.kept k5 (.inr (.inr (Nat.le_refl 0)))
  replace ryw0 := ryw0.kept k5 (.inr (.inr (Nat.le_refl 0)))
  replace A0_0 := k5.cell0 A0_0
  replace A0_1 := k5.cell0 A0_1
  replace K := hide ((unhide K).trans k5)
  have z6 := k5.size
  clear k5
  clear mk
  clear ryw0
  obtain ⟨aw0, dw0, hv⟩ := rw0.form'
  subst hv
  have kn := (Kept.refl 0 0 w5).alloc (.cells #[.int .i64 H0, .slice aw0 C0 dw0] 28)
  have cw0_0 : (w5.alloc (.cells #[.int .i64 H0, .slice aw0 C0 dw0] 28)).cell? ⟨w5.heap.size, 0, none⟩ = some (.int .i64 H0) := new_cell2 _ _ _ _ _ _ rfl rfl
  have cw0_1 : (w5.alloc (.cells #[.int .i64 H0, .slice aw0 C0 dw0] 28)).cell? ⟨w5.heap.size, 1, none⟩ = some (.slice aw0 C0 dw0) := new_cell2 _ _ _ _ _ _ rfl rfl
  have t7 : w5.heap.size + 1 ≤ (w5.alloc (.cells #[.int .i64 H0, .slice aw0 C0 dw0] 28)).heap.size := by simp
  replace r0 := r0.kept kn (.inr (.inr (Nat.le_refl 0)))
  replace rw0 := rw0.kept kn (.inr (.inr (Nat.le_refl 0)))
  replace A0_0 := kn.cell0 A0_0
  replace A0_1 := kn.cell0 A0_1
  replace K := hide ((unhide K).trans kn)
  have z8 := kn.size
  clear kn
  go_wp2_with fail
  generalize w5.alloc (.cells #[.int .i64 H0, .slice aw0 C0 dw0] 28) = wm7 at *
  refine (toIvMat_own (y0) _ hn0 hl0 r0).mono ?_
  rintro e w9 ⟨vx0, rfl, rx0, k9⟩
  replace r0 := r0.kept k9 (.inr (.inr (Nat.le_refl 0)))
  replace rw0 := rw0.kept k9 (.inr (.inr (Nat.le_refl 0)))
  replace A0_0 := k9.cell0 A0_0
  replace A0_1 := k9.cell0 A0_1
  replace cw0_0 := k9.cell0 cw0_0
  replace cw0_1 := k9.cell0 cw0_1
  replace K := hide ((unhide K).trans k9)
  have z10 := k9.size
  clear k9
  obtain ⟨ax0, dx0, hv⟩ := rx0.form'
  subst hv
  have kn := (Kept.refl 0 0 w9).alloc (.cells #[.int .i64 y0, .slice ax0 m0 dx0] 28)
  have cx0_0 : (w9.alloc (.cells #[.int .i64 y0, .slice ax0 m0 dx0] 28)).cell? ⟨w9.heap.size, 0, none⟩ = some (.int .i64 y0) := new_cell2 _ _ _ _ _ _ rfl rfl
  have cx0_1 : (w9.alloc (.cells #[.int .i64 y0, .slice ax0 m0 dx0] 28)).cell? ⟨w9.heap.size, 1, none⟩ = some (.slice ax0 m0 dx0) := new_cell2 _ _ _ _ _ _ rfl rfl
  have t11 : w9.heap.size + 1 ≤ (w9.alloc (.cells #[.int .i64 y0, .slice ax0 m0 dx0] 28)).heap.size := by simp
  replace r0 := r0.kept kn (.inr (.inr (Nat.le_refl 0)))
  replace rw0 := rw0.kept kn (.inr (.inr (Nat.le_refl 0)))
  replace rx0 := rx0.kept kn (.inr (.inr (Nat.le_refl 0)))
  replace A0_0 := kn.cell0 A0_0
  replace A0_1 := kn.cell0 A0_1
  replace cw0_0 := kn.cell0 cw0_0
  replace cw0_1 := kn.cell0 cw0_1
  replace K := hide ((unhide K).trans kn)
  have z12 := kn.size
  clear kn
  go_wp2_with fail
  generalize w9.alloc (.cells #[.int .i64 y0, .slice ax0 m0 dx0] 28) = wm11 at *
  have mk := ivMatOut_impl y0 p1 wm11 q0 rx0.read (T.kept (unhide K))
  simp only [unhide EB1, unhide EC0, unhide EL0, unhide EH0] at mk
  refine (mk).mono ?_
  rintro e w13 ⟨vg0, rfl, rg0, k13⟩
  replace r0 := r0.kept k13 (.inr (.inr (Nat.le_refl 0)))
  replace rw0 := rw0.kept k13 (.inr (.inr (Nat.le_refl 0)))
  replace rx0 := rx0.kept k13 (.inr (.inr (Nat.le_refl 0)))
  replace A0_0 := k13.cell0 A0_0
  replace A0_1 := k13.cell0 A0_1
  replace cw0_0 := k13.cell0 cw0_0
  replace cw0_1 := k13.cell0 cw0_1
  replace cx0_0 := k13.cell0 cx0_0
  replace cx0_1 := k13.cell0 cx0_1
  replace K := hide ((unhide K).trans k13)
  have z14 := k13.size
  clear k13
  clear mk
  obtain ⟨ag0, dg0, hv⟩ := rg0.form'
  subst hv
  have kn := (Kept.refl 0 0 w13).alloc (.cells #[.int .i64 H0, .slice ag0 C0 dg0] 28)
  have cg0_0 : (w13.alloc (.cells #[.int .i64 H0, .slice ag0 C0 dg0] 28)).cell? ⟨w13.heap.size, 0, none⟩ = some (.int .i64 H0) := new_cell2 _ _ _ _ _ _ rfl rfl
  have cg0_1 : (w13.alloc (.cells #[.int .i64 H0, .slice ag0 C0 dg0] 28)).cell? ⟨w13.heap.size, 1, none⟩ = some (.slice ag0 C0 dg0) := new_cell2 _ _ _ _ _ _ rfl rfl
  have t15 : w13.heap.size + 1 ≤ (w13.alloc (.cells #[.int .i64 H0, .slice ag0 C0 dg0] 28)).heap.size := by simp
  replace r0 := r0.kept kn (.inr (.inr (Nat.le_refl 0)))
  replace rw0 := rw0.kept kn (.inr (.inr (Nat.le_refl 0)))
  replace rx0 := rx0.kept kn (.inr (.inr (Nat.le_refl 0)))
  replace rg0 := rg0.kept kn (.inr (.inr (Nat.le_refl 0)))
  replace A0_0 := kn.cell0 A0_0
  replace A0_1 := kn.cell0 A0_1
  replace cw0_0 := kn.cell0 cw0_0
  replace cw0_1 := kn.cell0 cw0_1
  replace cx0_0 := kn.cell0 cx0_0
  replace cx0_1 := kn.cell0 cx0_1
  replace K := hide ((unhide K).trans kn)
  have z16 := kn.size
  clear kn
  go_wp2_with fail
  generalize w13.alloc (.cells #[.int .i64 H0, .slice ag0 C0 dg0] 28) = wm15 at *
  refine (eqIvMat_same (H0) _ rg0.read rw0.read).mono ?_
  rintro e w17 ⟨rfl, k17⟩
  replace r0 := r0.kept k17 (.inr (.inr (Nat.le_refl 0)))
  replace rw0 := rw0.kept k17 (.inr (.inr (Nat.le_refl 0)))
  replace rx0 := rx0.kept k17 (.inr (.inr (Nat.le_refl 0)))
  replace rg0 := rg0.kept k17 (.inr (.inr (Nat.le_refl 0)))
  replace A0_0 := k17.cell0 A0_0
  replace A0_1 := k17.cell0 A0_1
  replace cw0_0 := k17.cell0 cw0_0
  replace cw0_1 := k17.cell0 cw0_1
  replace cx0_0 := k17.cell0 cx0_0
  replace cx0_1 := k17.cell0 cx0_1
  replace cg0_0 := k17.cell0 cg0_0
  replace cg0_1 := k17.cell0 cg0_1
  replace K := hide ((unhide K).trans k17)
  have z18 := k17.size
  clear k17
  go_wp2_with fail
  have kd := (Kept.refl 0 0 w17).drew
  replace r0 := r0.kept kd (.inr (.inr (Nat.le_refl 0)))
  replace rw0 := rw0.kept kd (.inr (.inr (Nat.le_refl 0)))
  replace rx0 := rx0.kept kd (.inr (.inr (Nat.le_refl 0)))
  replace rg0 := rg0.kept kd (.inr (.inr (Nat.le_refl 0)))
  replace A0_0 := kd.cell0 A0_0
  replace A0_1 := kd.cell0 A0_1
  replace cw0_0 := kd.cell0 cw0_0
  replace cw0_1 := kd.cell0 cw0_1
  replace cx0_0 := kd.cell0 cx0_0
  replace cx0_1 := kd.cell0 cx0_1
  replace cg0_0 := kd.cell0 cg0_0
  replace cg0_1 := kd.cell0 cg0_1
  replace K := hide ((unhide K).trans kd)
  have z19 := kd.size
  clear kd
  refine wp_region_held_drew (S := (fun w' => w'.cell? ⟨w.heap.size, 0, none⟩ = some (.int .i64 y0) ∧ w'.cell? ⟨w.heap.size, 1, none⟩ = some (.slice a0 m0 c0) ∧ w'.cell? ⟨w9.heap.size, 0, none⟩ = some (.int .i64 y0) ∧ w'.cell? ⟨w9.heap.size, 1, none⟩ = some (.slice ax0 m0 dx0))) (by kernel_rfl) ?_ (fun hHeld => ?_)
  · exact ⟨A0_0, A0_1, cx0_0, cx0_1⟩
  refine wpAnyH_take (i := 0) (oi := _) (v := .agg #[.int .i64 y0, .slice ax0 m0 dx0]) rfl (by kernel_rfl) (by kernel_rfl) (by kernel_rfl) (fun _ _ _ h => h) (Or.inl ⟨by rfl, ?_⟩) hHeld ?_
  · intro wq hSw
    try dsimp only at hSw
    go_simp
  try simp only [Act.put, List.getElem_toArray, List.getElem_cons_succ, List.getElem_cons_zero, List.setIfInBounds_toArray, List.set_cons_zero, List.set_cons_succ]
  refine wpAnyH_take (i := 1) (oi := _) (v := .agg #[.int .i64 y0, .slice a0 m0 c0]) rfl (by kernel_rfl) (by kernel_rfl) (by kernel_rfl) (fun _ _ _ h => h) (Or.inl ⟨by rfl, ?_⟩) hHeld ?_
  · intro wq hSw
    try dsimp only at hSw
    go_simp
  try simp only [Act.put, List.getElem_toArray, List.getElem_cons_succ, List.getElem_cons_zero, List.setIfInBounds_toArray, List.set_cons_zero, List.set_cons_succ]
  refine wpAnyH_ready (rs := [2]) (by kernel_rfl) (by simp) ?_
  refine AllReadyH.cons rfl (fun KK hK => ?_) AllReadyH.nil
  simp only [List.getElem_toArray, List.getElem_cons_succ, List.getElem_cons_zero]
  rw [if_pos (by rfl)]
  refine wps1 12 (.tmp 46) _ rfl in_toX (.agg #[.int .i64 y0, .slice a0 m0 c0]) rfl (toIvMat_own (y0) _ hn0 hl0 r0) ?_
  rintro e w20 ⟨v80, rfl, r80, k20⟩
  refine ⟨_, rfl, ?_⟩
  replace r0 := r0.kept k20 (.inr (.inr (Nat.le_refl 0)))
  replace rw0 := rw0.kept k20 (.inr (.inr (Nat.le_refl 0)))
  replace rx0 := rx0.kept k20 (.inr (.inr (Nat.le_refl 0)))
  replace rg0 := rg0.kept k20 (.inr (.inr (Nat.le_refl 0)))
  replace A0_0 := k20.cell0 A0_0
  replace A0_1 := k20.cell0 A0_1
  replace cw0_0 := k20.cell0 cw0_0
  replace cw0_1 := k20.cell0 cw0_1
  replace cx0_0 := k20.cell0 cx0_0
  replace cx0_1 := k20.cell0 cx0_1
  replace cg0_0 := k20.cell0 cg0_0
  replace cg0_1 := k20.cell0 cg0_1
  replace K := hide ((unhide K).trans k20)
  have z21 := k20.size
  clear k20
  clear hHeld
  refine hK.out _ _ ?_ (fun hHeld => ?_)
  · exact ⟨A0_0, A0_1, cx0_0, cx0_1⟩
  clear hK KK
  try simp only [Act.put, List.getElem_toArray, List.getElem_cons_succ, List.getElem_cons_zero, List.setIfInBounds_toArray, List.set_cons_zero, List.set_cons_succ]
  refine wpAnyH_ready (rs := [3]) (by kernel_rfl) (by simp) ?_
  refine AllReadyH.cons rfl (fun KK hK => ?_) AllReadyH.nil
  simp only [List.getElem_toArray, List.getElem_cons_succ, List.getElem_cons_zero]
  rw [if_pos (by rfl)]
  refine wps2 14 (.tmp 45) (.tmp 47) _ rfl in_eqX (.agg #[.int .i64 y0, .slice ax0 m0 dx0]) (.agg #[.int .i64 y0, v80]) rfl rfl (eqIvMat_same (y0) _ rx0.read r80.read) ?_
  rintro e w22 ⟨rfl, k22⟩
  refine ⟨_, rfl, ?_⟩
  replace r0 := r0.kept k22 (.inr (.inr (Nat.le_refl 0)))
  replace rw0 := rw0.kept k22 (.inr (.inr (Nat.le_refl 0)))
  replace rx0 := rx0.kept k22 (.inr (.inr (Nat.le_refl 0)))
  replace rg0 := rg0.kept k22 (.inr (.inr (Nat.le_refl 0)))
  replace r80 := r80.kept k22 (.inr (.inr (Nat.le_refl 0)))
  replace A0_0 := k22.cell0 A0_0
  replace A0_1 := k22.cell0 A0_1
  replace cw0_0 := k22.cell0 cw0_0
  replace cw0_1 := k22.cell0 cw0_1
  replace cx0_0 := k22.cell0 cx0_0
  replace cx0_1 := k22.cell0 cx0_1
  replace cg0_0 := k22.cell0 cg0_0
  replace cg0_1 := k22.cell0 cg0_1
  replace K := hide ((unhide K).trans k22)
  have z23 := k22.size
  clear k22
  clear hHeld
  refine hK.out _ _ ?_ (fun hHeld => ?_)
  · exact ⟨A0_0, A0_1, cx0_0, cx0_1⟩
  clear hK KK
  try simp only [Act.put, List.getElem_toArray, List.getElem_cons_succ, List.getElem_cons_zero, List.setIfInBounds_toArray, List.set_cons_zero, List.set_cons_succ]
  refine wpAnyH_take (i := 4) (oi := _) (v := .bool false) rfl (by kernel_rfl) (by kernel_rfl) (by kernel_rfl) (fun _ _ _ h => h) (Or.inl ⟨by rfl, ?_⟩) hHeld ?_
  · intro wq hSw
    try dsimp only at hSw
    go_simp
  try simp only [Act.put, List.getElem_toArray, List.getElem_cons_succ, List.getElem_cons_zero, List.setIfInBounds_toArray, List.set_cons_zero, List.set_cons_succ]
  refine wpAnyH_done (by kernel_rfl) ?_ _
  clear hHeld
  clear r80
  have S0' := unhide S0
  go_wp2_with fail
  refine (markIvMat_wide (y0) _ (1) (by omega) (by omega) (by omega) rx0).mono ?_
  rintro e w24 ⟨rfl, -, k24⟩
  replace r0 := r0.kept k24 (by omega)
  replace rw0 := rw0.kept k24 (by omega)
  replace rg0 := rg0.kept k24 (by omega)
  replace A0_0 := k24.cellOut (by dsimp only; omega) A0_0
  replace A0_1 := k24.cellOut (by dsimp only; omega) A0_1
  replace cw0_0 := k24.cellOut (by dsimp only; omega) cw0_0
  replace cw0_1 := k24.cellOut (by dsimp only; omega) cw0_1
  replace cx0_0 := k24.cellOut (by dsimp only; omega) cx0_0
  replace cx0_1 := k24.cellOut (by dsimp only; omega) cx0_1
  replace cg0_0 := k24.cellOut (by dsimp only; omega) cg0_0
  replace cg0_1 := k24.cellOut (by dsimp only; omega) cg0_1
  replace K := hide ((unhide K).wide k24 (by omega))
  have z24 := k24.size
  clear k24 rx0
  have kg0 := kAt_ge z0 (1) z0.length (by omega)
  have kh0 := kAt_le z0 (1)
  have nk : ¬ (kAt z0 (1) z0.length) < 0 := by omega
  go_wp2_with fail
  refine (eqIvMat_same (H0) _ rg0.read rw0.read).mono ?_
  rintro e w25 ⟨rfl, k25⟩
  replace r0 := r0.kept k25 (.inr (.inr (Nat.le_refl 0)))
  replace rw0 := rw0.kept k25 (.inr (.inr (Nat.le_refl 0)))
  replace rg0 := rg0.kept k25 (.inr (.inr (Nat.le_refl 0)))
  replace A0_0 := k25.cell0 A0_0
  replace A0_1 := k25.cell0 A0_1
  replace cw0_0 := k25.cell0 cw0_0
  replace cw0_1 := k25.cell0 cw0_1
  replace cx0_0 := k25.cell0 cx0_0
  replace cx0_1 := k25.cell0 cx0_1
  replace cg0_0 := k25.cell0 cg0_0
  replace cg0_1 := k25.cell0 cg0_1
  replace K := hide ((unhide K).trans k25)
  have z26 := k25.size
  clear k25
  go_wp2_with fail
  refine (markIvMat_wide (H0) _ (1) (by omega) (by omega) (by omega) rg0).mono ?_
  rintro e w27 ⟨rfl, rm0, k27⟩
  replace r0 := r0.kept k27 (by omega)
  replace rw0 := rw0.kept k27 (by omega)
  replace A0_0 := k27.cellOut (by dsimp only; omega) A0_0
  replace A0_1 := k27.cellOut (by dsimp only; omega) A0_1
  replace cw0_0 := k27.cellOut (by dsimp only; omega) cw0_0
  replace cw0_1 := k27.cellOut (by dsimp only; omega) cw0_1
  replace cx0_0 := k27.cellOut (by dsimp only; omega) cx0_0
  replace cx0_1 := k27.cellOut (by dsimp only; omega) cx0_1
  replace cg0_0 := k27.cellOut (by dsimp only; omega) cg0_0
  replace cg0_1 := k27.cellOut (by dsimp only; omega) cg0_1
  replace K := hide ((unhide K).wide k27 (by omega))
  have z27 := k27.size
  clear k27 rg0
  go_wp2_with fail
  refine (heldIvMat_any (H0) _ (1) (by omega) (by omega) (by omega) rm0.read).mono ?_
  rintro e w28 ⟨rfl, k28⟩
  replace r0 := r0.kept k28 (.inr (.inr (Nat.le_refl 0)))
  replace rw0 := rw0.kept k28 (.inr (.inr (Nat.le_refl 0)))
  replace rm0 := rm0.kept k28 (.inr (.inr (Nat.le_refl 0)))
  replace A0_0 := k28.cell0 A0_0
  replace A0_1 := k28.cell0 A0_1
  replace cw0_0 := k28.cell0 cw0_0
  replace cw0_1 := k28.cell0 cw0_1
  replace cx0_0 := k28.cell0 cx0_0
  replace cx0_1 := k28.cell0 cx0_1
  replace cg0_0 := k28.cell0 cg0_0
  replace cg0_1 := k28.cell0 cg0_1
  replace K := hide ((unhide K).trans k28)
  have z29 := k28.size
  clear k28
  have nq029 : ¬ kAt L0 (1) L0.length < 0 := by omega
  go_wp2_with fail
  refine (toIvMat_own (y0) _ hn0 hl0 r0).mono ?_
  rintro e w30 ⟨vyh0, rfl, ryh0, k30⟩
  replace r0 := r0.kept k30 (.inr (.inr (Nat.le_refl 0)))
  replace rw0 := rw0.kept k30 (.inr (.inr (Nat.le_refl 0)))
  replace rm0 := rm0.kept k30 (.inr (.inr (Nat.le_refl 0)))
  replace A0_0 := k30.cell0 A0_0
  replace A0_1 := k30.cell0 A0_1
  replace cw0_0 := k30.cell0 cw0_0
  replace cw0_1 := k30.cell0 cw0_1
  replace cx0_0 := k30.cell0 cx0_0
  replace cx0_1 := k30.cell0 cx0_1
  replace cg0_0 := k30.cell0 cg0_0
  replace cg0_1 := k30.cell0 cg0_1
  replace K := hide ((unhide K).trans k30)
  have z31 := k30.size
  clear k30
  go_wp2_with fail
  have mk := ivMatOut_impl y0 p1 w30 q0 ryh0.read (T.kept (unhide K))
  simp only [unhide EB1, unhide EC0, unhide EL0, unhide EH0] at mk
  refine (mk).mono ?_
  rintro e w32 ⟨vh0, rfl, rh0, k32⟩
  replace r0 := r0.kept k32 (.inr (.inr (Nat.le_refl 0)))
  replace rw0 := rw0.kept k32 (.inr (.inr (Nat.le_refl 0)))
  replace rm0 := rm0.kept k32 (.inr (.inr (Nat.le_refl 0)))
  replace ryh0 := ryh0.kept k32 (.inr (.inr (Nat.le_refl 0)))
  replace A0_0 := k32.cell0 A0_0
  replace A0_1 := k32.cell0 A0_1
  replace cw0_0 := k32.cell0 cw0_0
  replace cw0_1 := k32.cell0 cw0_1
  replace cx0_0 := k32.cell0 cx0_0
  replace cx0_1 := k32.cell0 cx0_1
  replace cg0_0 := k32.cell0 cg0_0
  replace cg0_1 := k32.cell0 cg0_1
  replace K := hide ((unhide K).trans k32)
  have z33 := k32.size
  clear k32
  clear mk
  clear ryh0
  obtain ⟨ah0, dh0, hv⟩ := rh0.form'
  subst hv
  have kn := (Kept.refl 0 0 w32).alloc (.cells #[.int .i64 H0, .slice ah0 C0 dh0] 28)
  have ch0_0 : (w32.alloc (.cells #[.int .i64 H0, .slice ah0 C0 dh0] 28)).cell? ⟨w32.heap.size, 0, none⟩ = some (.int .i64 H0) := new_cell2 _ _ _ _ _ _ rfl rfl
  have ch0_1 : (w32.alloc (.cells #[.int .i64 H0, .slice ah0 C0 dh0] 28)).cell? ⟨w32.heap.size, 1, none⟩ = some (.slice ah0 C0 dh0) := new_cell2 _ _ _ _ _ _ rfl rfl
  have t34 : w32.heap.size + 1 ≤ (w32.alloc (.cells #[.int .i64 H0, .slice ah0 C0 dh0] 28)).heap.size := by simp
  replace r0 := r0.kept kn (.inr (.inr (Nat.le_refl 0)))
  replace rw0 := rw0.kept kn (.inr (.inr (Nat.le_refl 0)))
  replace rm0 := rm0.kept kn (.inr (.inr (Nat.le_refl 0)))
  replace rh0 := rh0.kept kn (.inr (.inr (Nat.le_refl 0)))
  replace A0_0 := kn.cell0 A0_0
  replace A0_1 := kn.cell0 A0_1
  replace cw0_0 := kn.cell0 cw0_0
  replace cw0_1 := kn.cell0 cw0_1
  replace cx0_0 := kn.cell0 cx0_0
  replace cx0_1 := kn.cell0 cx0_1
  replace cg0_0 := kn.cell0 cg0_0
  replace cg0_1 := kn.cell0 cg0_1
  replace K := hide ((unhide K).trans kn)
  have z35 := kn.size
  clear kn
  go_wp2_with fail
  generalize w32.alloc (.cells #[.int .i64 H0, .slice ah0 C0 dh0] 28) = wm34 at *
  refine (eqIvMat_same (H0) _ rh0.read rw0.read).mono ?_
  rintro e w36 ⟨rfl, k36⟩
  replace r0 := r0.kept k36 (.inr (.inr (Nat.le_refl 0)))
  replace rw0 := rw0.kept k36 (.inr (.inr (Nat.le_refl 0)))
  replace rm0 := rm0.kept k36 (.inr (.inr (Nat.le_refl 0)))
  replace rh0 := rh0.kept k36 (.inr (.inr (Nat.le_refl 0)))
  replace A0_0 := k36.cell0 A0_0
  replace A0_1 := k36.cell0 A0_1
  replace cw0_0 := k36.cell0 cw0_0
  replace cw0_1 := k36.cell0 cw0_1
  replace cx0_0 := k36.cell0 cx0_0
  replace cx0_1 := k36.cell0 cx0_1
  replace cg0_0 := k36.cell0 cg0_0
  replace cg0_1 := k36.cell0 cg0_1
  replace ch0_0 := k36.cell0 ch0_0
  replace ch0_1 := k36.cell0 ch0_1
  replace K := hide ((unhide K).trans k36)
  have z37 := k36.size
  clear k36
  go_wp2_with fail
  refine (heldIvMat_any (H0) _ (1) (by omega) (by omega) (by omega) rm0.read).mono ?_
  rintro e w38 ⟨rfl, k38⟩
  replace r0 := r0.kept k38 (.inr (.inr (Nat.le_refl 0)))
  replace rw0 := rw0.kept k38 (.inr (.inr (Nat.le_refl 0)))
  replace rm0 := rm0.kept k38 (.inr (.inr (Nat.le_refl 0)))
  replace rh0 := rh0.kept k38 (.inr (.inr (Nat.le_refl 0)))
  replace A0_0 := k38.cell0 A0_0
  replace A0_1 := k38.cell0 A0_1
  replace cw0_0 := k38.cell0 cw0_0
  replace cw0_1 := k38.cell0 cw0_1
  replace cx0_0 := k38.cell0 cx0_0
  replace cx0_1 := k38.cell0 cx0_1
  replace cg0_0 := k38.cell0 cg0_0
  replace cg0_1 := k38.cell0 cg0_1
  replace ch0_0 := k38.cell0 ch0_0
  replace ch0_1 := k38.cell0 ch0_1
  replace K := hide ((unhide K).trans k38)
  have z39 := k38.size
  clear k38
  have nq039 : ¬ kAt L0 (1) L0.length < 0 := by omega
  go_wp2_with fail
  go_ret
  exact ⟨rfl, (unhide K).toBelow⟩

end Go.Proofs.YthahoabkehcgbaaGreatDoor


namespace Go.Proofs.YthahoabkehcgbaaGreatDoor
open Go.ChangeShapes Go.WideShapes Go.ChangeAt Go.RowKit

end Go.Proofs.YthahoabkehcgbaaGreatDoor

namespace Go.Proofs.YthahoabkehcgbaaGreatDoor
open Go.ChangeShapes Go.WideShapes Go.ChangeAt Go.RowKit

theorem open_cells {P : Program} {W : World} {H : Type} {enc : TypeId × Value → H} {t e : TypeId} {k : IntKind} {cs : List Value} {fuel : Nat} {x : DataW H × List MemPlace}
    (ht : P.underlying t = some (.slice e)) (he : P.underlying e = some (.int k)) (hc : P.cellsOf e = 1)
    (hf : DataW.trod enc P W 0 (fun _ => true) true fuel t cs = some x) : ∃ v zs, cs = [v] ∧ Row k false 0 W.heap.size W v zs ∧ ∀ z ∈ zs, (Lit.int k z).wf = true := by
  rcases open_ints ht he hc hf with ⟨hcs, _⟩ | ⟨x, l, c, zs, hcs, _, hl, hm, hz, _, hcell, hwz⟩
  · exact ⟨_, [], hcs, Row.nil _ _ _ _ _, by simp⟩
  · subst hcs
    have hz2 : zs.length = c := by simpa using hz
    clear hz
    have hlen : (zs.take l).length = l := by simp [hz2]; omega
    refine ⟨_, zs.take l, rfl, ⟨some x, c, by rw [hlen], by rw [hlen]; exact hl, hm, fun hne => ?_⟩, fun z hz' => hwz z (List.mem_of_mem_take hz')⟩
    have hpos : 0 < l := by have := List.length_pos_iff.2 hne; omega
    obtain ⟨b, off, rfl, hc'⟩ := ints_at hcell (by omega)
    have h0 := hc' 0 (by omega)
    have hlt : b < W.heap.size := World.block_lt_of_cell? W ⟨b, off + 0, none⟩ h0
    refine ⟨b, off, rfl, Nat.zero_le _, hlt, hlt, fun i hi => ?_, fun e => by cases e⟩
    rw [hlen] at hi
    rw [hc' i (by omega)]
    simp [List.getD, hi]

end Go.Proofs.YthahoabkehcgbaaGreatDoor

namespace Go.Proofs.YthahoabkehcgbaaGreatDoor
open Go.ChangeShapes Go.WideShapes Go.ChangeAt Go.RowKit

end Go.Proofs.YthahoabkehcgbaaGreatDoor

namespace Go.Proofs.YthahoabkehcgbaaGreatDoor
open Go.ChangeShapes Go.WideShapes Go.ChangeAt Go.RowKit

end Go.Proofs.YthahoabkehcgbaaGreatDoor

namespace Go.Proofs.YthahoabkehcgbaaGreatDoor
open Go.RowKit

def initCodes : List Nat := [104, 97, 114, 110, 101, 115, 115, 32, 97, 55, 100, 101, 52, 52, 53, 56, 100, 99, 100, 56, 55, 101, 49, 49, 48, 49, 52, 48, 48, 102, 54, 101, 98, 97, 52, 97, 51, 52, 49, 53, 101, 55, 54, 52, 52, 55, 101, 57, 56, 99, 97, 100, 49, 102, 53, 48, 57, 101, 99, 99, 53, 55, 101, 99, 48, 52, 99, 50, 101, 101, 101, 99, 32, 99, 117, 116, 32, 97, 116, 32, 108, 111, 111, 112, 46, 101, 120, 97, 109, 112, 108, 101, 47, 103, 48, 48, 51, 56, 50, 47, 108, 97, 119, 115, 46, 70, 110, 69, 120, 97, 99, 116, 73, 118, 77, 97, 116, 65, 100, 100, 32, 108, 111, 111, 112, 46, 101, 120, 97, 109, 112, 108, 101, 47, 103, 48, 48, 51, 56, 50, 47, 108, 97, 119, 115, 46, 70, 110, 69, 120, 97, 99, 116, 73, 118, 77, 97, 116, 77, 117, 108, 32, 108, 111, 111, 112, 46, 101, 120, 97, 109, 112, 108, 101, 47, 103, 48, 48, 51, 56, 50, 47, 108, 97, 119, 115, 46, 70, 110, 69, 120, 97, 99, 116, 73, 118, 77, 97, 116, 68, 105, 118, 32, 108, 111, 111, 112, 46, 101, 120, 97, 109, 112, 108, 101, 47, 103, 48, 48, 51, 56, 50, 47, 108, 97, 119, 115, 46, 70, 110, 69, 120, 97, 99, 116, 73, 118, 77, 97, 116, 79, 117, 116, 32, 108, 111, 111, 112, 46, 101, 120, 97, 109, 112, 108, 101, 47, 103, 48, 48, 51, 56, 50, 47, 108, 97, 119, 115, 46, 70, 110, 69, 120, 97, 99, 116, 73, 118, 77, 97, 116, 70, 97, 116, 32, 108, 111, 111, 112, 46, 101, 120, 97, 109, 112, 108, 101, 47, 103, 48, 48, 51, 56, 50, 47, 108, 97, 119, 115, 46, 70, 110, 69, 120, 97, 99, 116, 73, 118, 77, 97, 116, 77, 105, 100, 32, 108, 111, 111, 112, 46, 101, 120, 97, 109, 112, 108, 101, 47, 103, 48, 48, 51, 56, 50, 47, 108, 97, 119, 115, 46, 70, 110, 69, 120, 97, 99, 116, 73, 118, 77, 97, 116, 87, 105, 100, 101]

theorem init_eq : Tryz.prog.initOrder = String.ofList (initCodes.map Char.ofNat) := by kernel_rfl
theorem words_eq : Tryz.prog.initOrder.toList = initCodes.map Char.ofNat := by rw [init_eq, String.toList_ofList]
theorem head_eq : behindMainWord (wordsSigns (initCodes.map Char.ofNat)) = "cut".toList :: (behindMainWord (wordsSigns (initCodes.map Char.ofNat))).tail := by kernel_rfl
theorem cut_eq : behindMainWord (wordsSigns Tryz.prog.initOrder.toList) = "cut".toList :: (behindMainWord (wordsSigns (initCodes.map Char.ofNat))).tail := by
  rw [words_eq]
  exact head_eq
theorem strip_cut (r : List (List Char)) : stripLifts liftWords ("cut".toList :: r) = ([], "cut".toList :: r) := by kernel_rfl
theorem make_of {P : Program} {r : List (List Char)} (h : behindMainWord (wordsSigns P.initOrder.toList) = "cut".toList :: r) : P.make = some .cut := by
  unfold Program.make
  rw [h]
  rfl
theorem lifts_of {P : Program} {r : List (List Char)} (h : behindMainWord (wordsSigns P.initOrder.toList) = "cut".toList :: r) : P.liftsFinal = false := by
  unfold Program.liftsFinal Program.headLifts
  rw [h, strip_cut]
  rfl
theorem enter_of {P : Program} {r : List (List Char)} (h : behindMainWord (wordsSigns P.initOrder.toList) = "cut".toList :: r) (h1 : P.laysLater = false) (h2 : P.bearsReflect = false) (h3 : P.doorFits [] = true) : P.mayEnter = true := by
  unfold Program.mayEnter
  rw [h]
  simp only [strip_cut, h1, h2, h3]
  rfl
theorem enter_ok : Tryz.prog.mayEnter = true := enter_of cut_eq (by kernel_rfl) (by kernel_rfl) (by kernel_rfl)
theorem make_ok : Tryz.prog.make = some .cut := make_of cut_eq
theorem lifts_ok : Tryz.prog.liftsFinal = false := lifts_of cut_eq

end Go.Proofs.YthahoabkehcgbaaGreatDoor


namespace Go.Proofs.YthahoabkehcgbaaGreatDoor
open Go.ChangeShapes Go.WideShapes Go.ChangeAt Go.RowKit

theorem dy_cellsI {P : Program} {W : World} {H : Type} {enc : TypeId × Value → H} {t e : TypeId} {f0 f1 g0 g1 q0 : Field} {k k2 : IntKind} {cs : List Value} {fuel : Nat} {xx : DataW H × List MemPlace}
    (ht : P.underlying t = some (.struct #[f0, f1])) (o0 : f0.offset = 0) (o1 : f1.offset = 2) (hs : P.cellsOf t = 3)
    (hm : P.underlying f0.type = some (.struct #[g0, g1])) (hm2 : P.cellsOf f0.type = 2) (p0 : g0.offset = 0) (p1 : g1.offset = 1) (hb : P.underlying g0.type = some .bool) (hb1 : P.cellsOf g0.type = 1)
    (hn : P.underlying g1.type = some (.struct #[q0])) (hn1 : P.cellsOf g1.type = 1) (og : q0.offset = 0) (hg1 : P.cellsOf q0.type = 1) (hsl : P.underlying q0.type = some (.slice e)) (he : P.underlying e = some (.int k)) (hc : P.cellsOf e = 1)
    (hi : P.underlying f1.type = some (.int k2)) (hi1 : P.cellsOf f1.type = 1)
    (hf : DataW.trod enc P W 0 (fun _ => true) true fuel t cs = some xx) : ∃ s u zs x, cs = [.bool s, u, .int k2 x] ∧ Row k false 0 W.heap.size W u zs ∧ (Lit.int k2 x).wf = true := by
  obtain ⟨y0, y1, n, -, hl, h0, h1⟩ := trod_struct2 ht hf
  rw [o0, hm2] at h0
  rw [o1, hi1] at h1
  simp only [List.drop_zero] at h0
  obtain ⟨x, e2, -, hw⟩ := DataW.trod_int hi h1
  obtain ⟨x0, x1, m, -, -, j0, j1⟩ := trod_struct2 hm h0
  rw [p0, hb1] at j0
  rw [p1, hn1] at j1
  simp only [List.drop_zero] at j0 j1
  obtain ⟨b, e0, -⟩ := DataW.trod_bool hb j0
  obtain ⟨z0, m', -, -, g⟩ := trod_struct1 hn j1
  rw [og, hg1, List.drop_zero, List.take_take] at g
  obtain ⟨u, zs, e1, r, -⟩ := open_cells hsl he hc g
  refine ⟨b, u, zs, x, ?_, r, hw⟩
  rw [hs] at hl
  match hcl : cs, hl with
  | [x, y, z], _ =>
    simp at e0 e1 e2
    rw [e0, e1, e2]

theorem open_ivmat {P : Program} {W : World} {H : Type} {enc : TypeId × Value → H} {t te e : TypeId} {m0 m1 d0 d1 f0 f1 g0 g1 q0 : Field} {rch : Reach} {base : Nat} {v : Value} {d : DataW H} {ps : List MemPlace}
    (hv : P.underlying t = some (.struct #[m0, m1])) (c0 : m0.offset = 0) (c1 : m1.offset = 1) (hv2 : P.cellsOf t = 2) (hN : P.underlying m0.type = some (.int .i64)) (hN1 : P.cellsOf m0.type = 1) (hS : P.underlying m1.type = some (.slice te)) (hS1 : P.cellsOf m1.type = 1)
    (hI : P.underlying te = some (.struct #[d0, d1])) (i0 : d0.offset = 0) (i1 : d1.offset = 3) (hI6 : P.cellsOf te = 6) (dd : d1.type = d0.type)
    (ht : P.underlying d0.type = some (.struct #[f0, f1])) (o0 : f0.offset = 0) (o1 : f1.offset = 2) (hs : P.cellsOf d0.type = 3)
    (hm : P.underlying f0.type = some (.struct #[g0, g1])) (hm2 : P.cellsOf f0.type = 2) (p0 : g0.offset = 0) (p1 : g1.offset = 1) (hb : P.underlying g0.type = some .bool) (hb1 : P.cellsOf g0.type = 1)
    (hn : P.underlying g1.type = some (.struct #[q0])) (hn1 : P.cellsOf g1.type = 1) (og : q0.offset = 0) (hg1 : P.cellsOf q0.type = 1) (hsl : P.underlying q0.type = some (.slice e)) (he : P.underlying e = some (.int .i64)) (hc : P.cellsOf e = 1)
    (hi : P.underlying f1.type = some (.int .i64)) (hi1 : P.cellsOf f1.type = 1) (hval : Value.okWide P W rch base t v)
    (h : DataW.Trod enc P W 0 (fun _ => true) true t v d ps) : ∃ n u ds m, v = .agg #[.int .i64 n, u] ∧ (Lit.int .i64 n).wf = true ∧ Ivs 0 W.heap.size W u ds m ∧ ∀ d ∈ ds, (Lit.int .i64 d.2.2).wf = true := by
  obtain ⟨cs, rfl, hcs⟩ := okWide_struct hv hval
  obtain ⟨fuel, hf⟩ := h
  obtain ⟨y0, y1, n, -, -, h0, h1⟩ := trod_struct2 hv hf
  rw [c0, hN1] at h0
  rw [c1, hS1] at h1
  simp only [Value.cells, List.drop_zero] at h0 h1
  obtain ⟨x, e0, -, hw⟩ := DataW.trod_int hN h0
  rw [hv2] at hcs
  have hl : cs.toList.length = 2 := by simpa using hcs
  have fin : ∀ u, (cs.toList.drop 1).take 1 = [u] → (Value.agg cs) = .agg #[.int .i64 x, u] := by
    intro u e1
    congr 1
    apply Array.ext'
    match hcl : cs.toList, hl with
    | [x1, x2], _ =>
      rw [hcl] at e0 e1
      simp at e0 e1
      rw [e0, e1]
  rcases DataW.trod_slice hS h1 with ⟨e1, -⟩ | ⟨a, len, cap, elems, rest, n', -, e1, -, -, hle, hcap, hlen, hel, -, -⟩
  · exact ⟨x, _, [], 0, fin _ e1, hw, ⟨none, 0, rfl, Nat.le_refl _, Nat.zero_le _, rfl, fun h => absurd rfl h⟩, by simp⟩
  · -- each element's six cells
    have each : ∀ i, i < len → ∃ s u zs y s' u' zs' y', W.cells? 0 (a.add (i * 6)) 6 = some [.bool s, u, .int .i64 y, .bool s', u', .int .i64 y'] ∧ Row .i64 false 0 W.heap.size W u zs ∧ Row .i64 false 0 W.heap.size W u' zs' ∧ (Lit.int .i64 y).wf = true ∧ (Lit.int .i64 y').wf = true := by
      intro i hi'
      have h2 := hel i hi'
      rw [hI6] at h2
      have h3 : ∃ xx, elems[i]? = some xx := ⟨_, List.getElem?_eq_getElem (by omega)⟩
      obtain ⟨xx, h3⟩ := h3
      rw [h3] at h2
      obtain ⟨cc, hcc, htr⟩ := Option.bind_eq_some_iff.1 h2
      obtain ⟨z0, z1, n2, -, hl6, k0, k1⟩ := trod_struct2 hI htr
      rw [i0, hs] at k0
      rw [i1, dd, hs] at k1
      simp only [List.drop_zero] at k0
      obtain ⟨s, u, zs, y, q0', r, hw⟩ := dy_cellsI ht o0 o1 hs hm hm2 p0 p1 hb hb1 hn hn1 og hg1 hsl he hc hi hi1 k0
      obtain ⟨s', u', zs', y', q1', r', hw'⟩ := dy_cellsI ht o0 o1 hs hm hm2 p0 p1 hb hb1 hn hn1 og hg1 hsl he hc hi hi1 k1
      refine ⟨s, u, zs, y, s', u', zs', y', ?_, r, r', hw, hw'⟩
      rw [hcc]
      rw [hI6] at hl6
      congr 1
      match hcl : cc, hl6 with
      | [x1, x2, x3, x4, x5, x6], _ =>
        simp at q0' q1'
        rw [q0'.1, q0'.2.1, q0'.2.2, q1'.1, q1'.2.1, q1'.2.2]
    have pick : ∀ k, k ≤ len → ∃ ds : List DE, ds.length = 2 * k ∧ ∀ i, i < k → (∃ u u', W.cells? 0 (a.add (i * 6)) 6 = some [.bool (ds.getD (2 * i) de0).1, u, .int .i64 (ds.getD (2 * i) de0).2.2, .bool (ds.getD (2 * i + 1) de0).1, u', .int .i64 (ds.getD (2 * i + 1) de0).2.2] ∧ Row .i64 false 0 W.heap.size W u (ds.getD (2 * i) de0).2.1 ∧ Row .i64 false 0 W.heap.size W u' (ds.getD (2 * i + 1) de0).2.1) ∧ (Lit.int .i64 (ds.getD (2 * i) de0).2.2).wf = true ∧ (Lit.int .i64 (ds.getD (2 * i + 1) de0).2.2).wf = true := by
      intro k
      induction k with
      | zero => intro _; exact ⟨[], rfl, fun i hi => by omega⟩
      | succ k ih =>
        intro hk
        obtain ⟨ds, hd, hall⟩ := ih (by omega)
        obtain ⟨s, u, zs, y, s', u', zs', y', q1, q2, q3, q4, q5⟩ := each k (by omega)
        refine ⟨ds ++ [(s, zs, y), (s', zs', y')], by simp [hd]; omega, fun i hi' => ?_⟩
        by_cases e : i = k
        · subst e
          have t1 : (ds ++ [(s, zs, y), (s', zs', y')]).getD (2 * i) de0 = (s, zs, y) := by
            rw [List.getD_eq_getElem?_getD, List.getElem?_append_right (by omega), hd]
            simp
          have t2 : (ds ++ [(s, zs, y), (s', zs', y')]).getD (2 * i + 1) de0 = (s', zs', y') := by
            rw [List.getD_eq_getElem?_getD, List.getElem?_append_right (by omega), hd, show 2 * i + 1 - 2 * i = 1 by omega]
            rfl
          rw [t1, t2]
          exact ⟨⟨u, u', q1, q2, q3⟩, q4, q5⟩
        · have t : ∀ q, q < ds.length → (ds ++ [(s, zs, y), (s', zs', y')]).getD q de0 = ds.getD q de0 := fun q hq => by
            rw [List.getD_eq_getElem?_getD, List.getElem?_append_left hq, ← List.getD_eq_getElem?_getD]
          rw [t (2 * i) (by omega), t (2 * i + 1) (by omega)]
          exact hall i (by omega)
    obtain ⟨ds, hd, hall⟩ := pick len (Nat.le_refl _)
    refine ⟨x, _, ds, len, fin _ e1, hw, ⟨some a, cap, rfl, by omega, hcap, hd, fun hne => ?_⟩, fun d hd' => ?_⟩
    · have hpos : 0 < len := by omega
      obtain ⟨⟨u0, u1, q0', -⟩, -⟩ := hall 0 hpos
      have hc0 := (World.cells?_some q0').2.2 0 (by omega)
      obtain ⟨b, off, spot⟩ := a
      have hspot : spot = none := by simpa [Addr.add] using World.cell?_spot hc0
      subst hspot
      have hlt : b < W.heap.size := by simpa [Addr.add] using World.block_lt_of_cell? W _ hc0
      refine ⟨b, off, rfl, Nat.zero_le _, hlt, hlt, fun k hk' => ?_⟩
      obtain ⟨⟨u, u', q1, q2, q3⟩, -⟩ := hall (k / 2) (by omega)
      have q4 := (World.cells?_some q1).2.2
      rcases Nat.mod_two_eq_zero_or_one k with hk2 | hk2
      · have e0 := q4 0 (by omega)
        have e1 := q4 1 (by omega)
        have e2 := q4 2 (by omega)
        rw [add_plain, add_plain] at e0 e1 e2
        have h6 : k / 2 * 6 = k * 3 := by omega
        have h7 : 2 * (k / 2) = k := by omega
        rw [h6] at e0 e1 e2
        rw [h7] at q2 e0 e2
        exact ⟨u, e0, e1, e2, q2⟩
      · have e0 := q4 3 (by omega)
        have e1 := q4 4 (by omega)
        have e2 := q4 5 (by omega)
        rw [add_plain, add_plain] at e0 e1 e2
        have h7 : 2 * (k / 2) + 1 = k := by omega
        rw [show off + k / 2 * 6 + 3 = off + k * 3 by omega] at e0
        rw [show off + k / 2 * 6 + 4 = off + k * 3 + 1 by omega] at e1
        rw [show off + k / 2 * 6 + 5 = off + k * 3 + 2 by omega] at e2
        try simp only [List.getElem_cons_succ, List.getElem_cons_zero] at e0 e1 e2
        rw [h7] at q3
        have h8 : ds.getD (2 * (k / 2) + 1) de0 = ds.getD k de0 := by rw [h7]
        rw [h8] at e0 e2
        exact ⟨u', e0, e1, e2, q3⟩
    · obtain ⟨i, hi', rfl⟩ := List.mem_iff_getElem.1 hd'
      have t := (hall (i / 2) (by omega)).2
      have g : ds.getD i de0 = ds[i] := by simp [List.getD, hi']
      rw [← g]
      rcases Nat.mod_two_eq_zero_or_one i with hk2 | hk2
      · rw [show 2 * (i / 2) = i by omega] at t
        exact t.1
      · have t2 := t.2
        rw [show 2 * (i / 2) + 1 = i by omega] at t2
        exact t2
end Go.Proofs.YthahoabkehcgbaaGreatDoor

