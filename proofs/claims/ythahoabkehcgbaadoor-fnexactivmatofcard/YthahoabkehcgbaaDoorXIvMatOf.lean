/-
  The walk of the law FnExactIvMatOf: it returns true at every argument.
-/
import Derived.Test.YthahoabkehcgbaaDoorOf2
import Derived.Test.YthahoabkehcgbaaDoorLwX
import Derived.Test.YthahoabkehcgbaaDoorIvs2
import Derived.Test.YthahoabkehcgbaaDoorDys4
import Derived.Test.YthahoabkehcgbaaDoorBJ
import Derived.Test.YthahoabkehcgbaaDoorBC
import Derived.Deep.DeepCutAuto
namespace Go.Proofs.YthahoabkehcgbaaDoor
open Go.RowKit
set_option linter.unusedVariables false
set_option maxRecDepth 8000
set_option linter.unusedSimpArgs false

theorem wf_IvMatOf {n : Int} (h : (Lit.int .i64 n).wf = true) : n ≤ 9223372036854775807 ∧ -9223372036854775808 ≤ n := by
  have e : (Lit.int .i64 n).wf = (decide (IntKind.i64.min ≤ n) && decide (n ≤ IntKind.i64.max)) := rfl
  rw [e, show IntKind.i64.min = -9223372036854775808 by decide, show IntKind.i64.max = 9223372036854775807 by decide] at h
  simp at h
  omega

set_option maxHeartbeats 16000000 in
theorem law_IvMatOf {u0 : Value} {z0 : List DE} {w : World} (y0 : Int) (r0 : Dys 0 w.heap.size w u0 z0) (q0 : WfD z0) (fy0 : (Lit.int .i64 y0).wf = true) (T : TabB w) :
    Calls Tryd.prog 3 #[.agg #[.int .i64 y0, u0]] w fun e w' => e = .returned (.bool true) ∧ Below w.heap.size w w' := by
  have gy0 : y0 ≤ 9223372036854775807 ∧ -9223372036854775808 ≤ y0 := wf_IvMatOf fy0
  clear fy0
  obtain ⟨B1, hB1⟩ : ∃ B, mokB y0 z0 = B := ⟨_, rfl⟩
  obtain ⟨C0, hC0⟩ : ∃ C, ofC y0 z0 = C := ⟨_, rfl⟩
  obtain ⟨L0, hL0⟩ : ∃ L, ofL y0 z0 = L := ⟨_, rfl⟩
  obtain ⟨H0, hH0⟩ : ∃ H, ofN y0 z0 = H := ⟨_, rfl⟩
  have hs0 : szT L0 ≤ 4000 := by rw [← hL0]; exact (of_sz _ _)
  have sl'0 := szT_len L0
  have kg'0 := kAt_ge L0 1 L0.length (by omega)
  have kh'0 := kAt_le L0 1
  have sl0 := szT_len z0
  have k0 : Kept 0 0 w (w.alloc (.cells #[.int .i64 y0, u0] 24)) := ((Kept.refl 0 0 w).alloc (.cells #[.int .i64 y0, u0] 24))
  have A0_0 : (w.alloc (.cells #[.int .i64 y0, u0] 24)).cell? ⟨w.heap.size, 0, none⟩ = some (.int .i64 y0) := new_cell2 _ _ _ _ _ _ (by simp) rfl
  have A0_1 : (w.alloc (.cells #[.int .i64 y0, u0] 24)).cell? ⟨w.heap.size, 1, none⟩ = some (u0) := new_cell2 _ _ _ _ _ _ (by simp) rfl
  replace r0 := r0.kept k0 (by omega)
  have s0 : (w.alloc (.cells #[.int .i64 y0, u0] 24)).heap.size = w.heap.size + 1 := by simp
  obtain ⟨a0, c0, hv⟩ := r0.form'
  subst hv
  have K := hide (k0)
  clear k0
  have S0 := hide s0
  clear s0
  have EB1 := hide hB1
  have EC0 := hide hC0
  have EL0 := hide hL0
  have EH0 := hide hH0
  clear hB1 hC0 hL0 hH0
  go_enter Tryd.func3, Tryd.ntmps3
  skip
  go_wp2_with fail
  generalize (w.alloc (.cells #[.int .i64 y0, .slice a0 z0.length c0] 24)) = W at *
  refine (szMat_any (y0) _ (1048576) (by omega) (by omega) r0).mono ?_
  rintro e w1 ⟨rfl, k1⟩
  replace r0 := r0.kept k1 (.inr (.inr (Nat.le_refl 0)))
  replace A0_0 := k1.cell0 A0_0
  replace A0_1 := k1.cell0 A0_1
  replace K := hide ((unhide K).trans k1)
  have z2 := k1.size
  clear k1
  by_cases big0 : szT z0 ≤ 1048576
  rotate_left
  · rw [if_neg big0]
    go_wp2_with fail
    go_ret
    exact ⟨rfl, (unhide K).toBelow⟩
  rw [if_pos big0]
  have nb0 : ¬ (1048576 - szT z0) < 0 := by omega
  have hn0 : z0.length ≤ 1048576 := by omega
  have hl0 : ∀ i, i < z0.length → (z0.getD i de0).2.1.length ≤ 1099511627776 := fun i hi => by have := szT_each z0 i hi; omega
  go_wp2_with fail
  refine (toMat_any (y0) _ hn0 hl0 r0).mono ?_
  rintro e w3 ⟨vyw0, rfl, ryw0, k3⟩
  replace r0 := r0.kept k3 (.inr (.inr (Nat.le_refl 0)))
  replace A0_0 := k3.cell0 A0_0
  replace A0_1 := k3.cell0 A0_1
  replace K := hide ((unhide K).trans k3)
  have z4 := k3.size
  clear k3
  go_wp2_with fail
  have mk := ivMatOf_spec y0 w3 q0 ryw0.read
  simp only [unhide EB1, unhide EC0, unhide EL0, unhide EH0] at mk
  refine (mk).mono ?_
  rintro e w5 ⟨vw0, rfl, rw0, k5⟩
  replace r0 := r0.kept k5 (.inr (.inr (Nat.le_refl 0)))
  replace ryw0 := ryw0.kept k5 (.inr (.inr (Nat.le_refl 0)))
  replace A0_0 := k5.cell0 A0_0
  replace A0_1 := k5.cell0 A0_1
  replace K := hide ((unhide K).trans k5)
  have z6 := k5.size
  clear k5
  clear mk
  clear ryw0
  obtain ⟨aw0, dw0, hv⟩ := rw0.form'
  subst hv
  have kn := (Kept.refl 0 0 w5).alloc (.cells #[.int .i64 H0, .slice aw0 C0 dw0] 28)
  have cw0_0 : (w5.alloc (.cells #[.int .i64 H0, .slice aw0 C0 dw0] 28)).cell? ⟨w5.heap.size, 0, none⟩ = some (.int .i64 H0) := new_cell2 _ _ _ _ _ _ rfl rfl
  have cw0_1 : (w5.alloc (.cells #[.int .i64 H0, .slice aw0 C0 dw0] 28)).cell? ⟨w5.heap.size, 1, none⟩ = some (.slice aw0 C0 dw0) := new_cell2 _ _ _ _ _ _ rfl rfl
  have t7 : w5.heap.size + 1 ≤ (w5.alloc (.cells #[.int .i64 H0, .slice aw0 C0 dw0] 28)).heap.size := by simp
  replace r0 := r0.kept kn (.inr (.inr (Nat.le_refl 0)))
  replace rw0 := rw0.kept kn (.inr (.inr (Nat.le_refl 0)))
  replace A0_0 := kn.cell0 A0_0
  replace A0_1 := kn.cell0 A0_1
  replace K := hide ((unhide K).trans kn)
  have z8 := kn.size
  clear kn
  go_wp2_with fail
  generalize w5.alloc (.cells #[.int .i64 H0, .slice aw0 C0 dw0] 28) = wm7 at *
  refine (toMat_any (y0) _ hn0 hl0 r0).mono ?_
  rintro e w9 ⟨vx0, rfl, rx0, k9⟩
  replace r0 := r0.kept k9 (.inr (.inr (Nat.le_refl 0)))
  replace rw0 := rw0.kept k9 (.inr (.inr (Nat.le_refl 0)))
  replace A0_0 := k9.cell0 A0_0
  replace A0_1 := k9.cell0 A0_1
  replace cw0_0 := k9.cell0 cw0_0
  replace cw0_1 := k9.cell0 cw0_1
  replace K := hide ((unhide K).trans k9)
  have z10 := k9.size
  clear k9
  obtain ⟨ax0, dx0, hv⟩ := rx0.form'
  subst hv
  have kn := (Kept.refl 0 0 w9).alloc (.cells #[.int .i64 y0, .slice ax0 z0.length dx0] 33)
  have cx0_0 : (w9.alloc (.cells #[.int .i64 y0, .slice ax0 z0.length dx0] 33)).cell? ⟨w9.heap.size, 0, none⟩ = some (.int .i64 y0) := new_cell2 _ _ _ _ _ _ rfl rfl
  have cx0_1 : (w9.alloc (.cells #[.int .i64 y0, .slice ax0 z0.length dx0] 33)).cell? ⟨w9.heap.size, 1, none⟩ = some (.slice ax0 z0.length dx0) := new_cell2 _ _ _ _ _ _ rfl rfl
  have t11 : w9.heap.size + 1 ≤ (w9.alloc (.cells #[.int .i64 y0, .slice ax0 z0.length dx0] 33)).heap.size := by simp
  replace r0 := r0.kept kn (.inr (.inr (Nat.le_refl 0)))
  replace rw0 := rw0.kept kn (.inr (.inr (Nat.le_refl 0)))
  replace rx0 := rx0.kept kn (.inr (.inr (Nat.le_refl 0)))
  replace A0_0 := kn.cell0 A0_0
  replace A0_1 := kn.cell0 A0_1
  replace cw0_0 := kn.cell0 cw0_0
  replace cw0_1 := kn.cell0 cw0_1
  replace K := hide ((unhide K).trans kn)
  have z12 := kn.size
  clear kn
  go_wp2_with fail
  generalize w9.alloc (.cells #[.int .i64 y0, .slice ax0 z0.length dx0] 33) = wm11 at *
  have mk := ivMatOf_impl y0 wm11 q0 rx0.read (T.kept (unhide K))
  simp only [unhide EB1, unhide EC0, unhide EL0, unhide EH0] at mk
  refine (mk).mono ?_
  rintro e w13 ⟨vg0, rfl, rg0, k13⟩
  replace r0 := r0.kept k13 (.inr (.inr (Nat.le_refl 0)))
  replace rw0 := rw0.kept k13 (.inr (.inr (Nat.le_refl 0)))
  replace rx0 := rx0.kept k13 (.inr (.inr (Nat.le_refl 0)))
  replace A0_0 := k13.cell0 A0_0
  replace A0_1 := k13.cell0 A0_1
  replace cw0_0 := k13.cell0 cw0_0
  replace cw0_1 := k13.cell0 cw0_1
  replace cx0_0 := k13.cell0 cx0_0
  replace cx0_1 := k13.cell0 cx0_1
  replace K := hide ((unhide K).trans k13)
  have z14 := k13.size
  clear k13
  clear mk
  obtain ⟨ag0, dg0, hv⟩ := rg0.form'
  subst hv
  have kn := (Kept.refl 0 0 w13).alloc (.cells #[.int .i64 H0, .slice ag0 C0 dg0] 28)
  have cg0_0 : (w13.alloc (.cells #[.int .i64 H0, .slice ag0 C0 dg0] 28)).cell? ⟨w13.heap.size, 0, none⟩ = some (.int .i64 H0) := new_cell2 _ _ _ _ _ _ rfl rfl
  have cg0_1 : (w13.alloc (.cells #[.int .i64 H0, .slice ag0 C0 dg0] 28)).cell? ⟨w13.heap.size, 1, none⟩ = some (.slice ag0 C0 dg0) := new_cell2 _ _ _ _ _ _ rfl rfl
  have t15 : w13.heap.size + 1 ≤ (w13.alloc (.cells #[.int .i64 H0, .slice ag0 C0 dg0] 28)).heap.size := by simp
  replace r0 := r0.kept kn (.inr (.inr (Nat.le_refl 0)))
  replace rw0 := rw0.kept kn (.inr (.inr (Nat.le_refl 0)))
  replace rx0 := rx0.kept kn (.inr (.inr (Nat.le_refl 0)))
  replace rg0 := rg0.kept kn (.inr (.inr (Nat.le_refl 0)))
  replace A0_0 := kn.cell0 A0_0
  replace A0_1 := kn.cell0 A0_1
  replace cw0_0 := kn.cell0 cw0_0
  replace cw0_1 := kn.cell0 cw0_1
  replace cx0_0 := kn.cell0 cx0_0
  replace cx0_1 := kn.cell0 cx0_1
  replace K := hide ((unhide K).trans kn)
  have z16 := kn.size
  clear kn
  go_wp2_with fail
  generalize w13.alloc (.cells #[.int .i64 H0, .slice ag0 C0 dg0] 28) = wm15 at *
  refine (eqIvMat_same (H0) _ rg0.read rw0.read).mono ?_
  rintro e w17 ⟨rfl, k17⟩
  replace r0 := r0.kept k17 (.inr (.inr (Nat.le_refl 0)))
  replace rw0 := rw0.kept k17 (.inr (.inr (Nat.le_refl 0)))
  replace rx0 := rx0.kept k17 (.inr (.inr (Nat.le_refl 0)))
  replace rg0 := rg0.kept k17 (.inr (.inr (Nat.le_refl 0)))
  replace A0_0 := k17.cell0 A0_0
  replace A0_1 := k17.cell0 A0_1
  replace cw0_0 := k17.cell0 cw0_0
  replace cw0_1 := k17.cell0 cw0_1
  replace cx0_0 := k17.cell0 cx0_0
  replace cx0_1 := k17.cell0 cx0_1
  replace cg0_0 := k17.cell0 cg0_0
  replace cg0_1 := k17.cell0 cg0_1
  replace K := hide ((unhide K).trans k17)
  have z18 := k17.size
  clear k17
  go_wp2_with fail
  have kd := (Kept.refl 0 0 w17).drew
  replace r0 := r0.kept kd (.inr (.inr (Nat.le_refl 0)))
  replace rw0 := rw0.kept kd (.inr (.inr (Nat.le_refl 0)))
  replace rx0 := rx0.kept kd (.inr (.inr (Nat.le_refl 0)))
  replace rg0 := rg0.kept kd (.inr (.inr (Nat.le_refl 0)))
  replace A0_0 := kd.cell0 A0_0
  replace A0_1 := kd.cell0 A0_1
  replace cw0_0 := kd.cell0 cw0_0
  replace cw0_1 := kd.cell0 cw0_1
  replace cx0_0 := kd.cell0 cx0_0
  replace cx0_1 := kd.cell0 cx0_1
  replace cg0_0 := kd.cell0 cg0_0
  replace cg0_1 := kd.cell0 cg0_1
  replace K := hide ((unhide K).trans kd)
  have z19 := kd.size
  clear kd
  refine wp_region_held_drew (S := (fun w' => w'.cell? ⟨w.heap.size, 0, none⟩ = some (.int .i64 y0) ∧ w'.cell? ⟨w.heap.size, 1, none⟩ = some (.slice a0 z0.length c0) ∧ w'.cell? ⟨w9.heap.size, 0, none⟩ = some (.int .i64 y0) ∧ w'.cell? ⟨w9.heap.size, 1, none⟩ = some (.slice ax0 z0.length dx0))) (by kernel_rfl) ?_ (fun hHeld => ?_)
  · exact ⟨A0_0, A0_1, cx0_0, cx0_1⟩
  refine wpAnyH_take (i := 0) (oi := _) (v := .agg #[.int .i64 y0, .slice ax0 z0.length dx0]) rfl (by kernel_rfl) (by kernel_rfl) (by kernel_rfl) (fun _ _ _ h => h) (Or.inl ⟨by rfl, ?_⟩) hHeld ?_
  · intro wq hSw
    try dsimp only at hSw
    go_simp
  try simp only [Act.put, List.getElem_toArray, List.getElem_cons_succ, List.getElem_cons_zero, List.setIfInBounds_toArray, List.set_cons_zero, List.set_cons_succ]
  refine wpAnyH_take (i := 1) (oi := _) (v := .agg #[.int .i64 y0, .slice a0 z0.length c0]) rfl (by kernel_rfl) (by kernel_rfl) (by kernel_rfl) (fun _ _ _ h => h) (Or.inl ⟨by rfl, ?_⟩) hHeld ?_
  · intro wq hSw
    try dsimp only at hSw
    go_simp
  try simp only [Act.put, List.getElem_toArray, List.getElem_cons_succ, List.getElem_cons_zero, List.setIfInBounds_toArray, List.set_cons_zero, List.set_cons_succ]
  refine wpAnyH_ready (rs := [2]) (by kernel_rfl) (by simp) ?_
  refine AllReadyH.cons rfl (fun KK hK => ?_) AllReadyH.nil
  simp only [List.getElem_toArray, List.getElem_cons_succ, List.getElem_cons_zero]
  rw [if_pos (by rfl)]
  refine wps1 6 (.tmp 42) _ rfl in_toM (.agg #[.int .i64 y0, .slice a0 z0.length c0]) rfl (toMat_any (y0) _ hn0 hl0 r0) ?_
  rintro e w20 ⟨v80, rfl, r80, k20⟩
  refine ⟨_, rfl, ?_⟩
  replace r0 := r0.kept k20 (.inr (.inr (Nat.le_refl 0)))
  replace rw0 := rw0.kept k20 (.inr (.inr (Nat.le_refl 0)))
  replace rx0 := rx0.kept k20 (.inr (.inr (Nat.le_refl 0)))
  replace rg0 := rg0.kept k20 (.inr (.inr (Nat.le_refl 0)))
  replace A0_0 := k20.cell0 A0_0
  replace A0_1 := k20.cell0 A0_1
  replace cw0_0 := k20.cell0 cw0_0
  replace cw0_1 := k20.cell0 cw0_1
  replace cx0_0 := k20.cell0 cx0_0
  replace cx0_1 := k20.cell0 cx0_1
  replace cg0_0 := k20.cell0 cg0_0
  replace cg0_1 := k20.cell0 cg0_1
  replace K := hide ((unhide K).trans k20)
  have z21 := k20.size
  clear k20
  clear hHeld
  refine hK.out _ _ ?_ (fun hHeld => ?_)
  · exact ⟨A0_0, A0_1, cx0_0, cx0_1⟩
  clear hK KK
  try simp only [Act.put, List.getElem_toArray, List.getElem_cons_succ, List.getElem_cons_zero, List.setIfInBounds_toArray, List.set_cons_zero, List.set_cons_succ]
  refine wpAnyH_ready (rs := [3]) (by kernel_rfl) (by simp) ?_
  refine AllReadyH.cons rfl (fun KK hK => ?_) AllReadyH.nil
  simp only [List.getElem_toArray, List.getElem_cons_succ, List.getElem_cons_zero]
  rw [if_pos (by rfl)]
  refine wps2 9 (.tmp 41) (.tmp 43) _ rfl in_eqM (.agg #[.int .i64 y0, .slice ax0 z0.length dx0]) (.agg #[.int .i64 y0, v80]) rfl rfl (eqMat_same (y0) _ rx0.read r80.read) ?_
  rintro e w22 ⟨rfl, k22⟩
  refine ⟨_, rfl, ?_⟩
  replace r0 := r0.kept k22 (.inr (.inr (Nat.le_refl 0)))
  replace rw0 := rw0.kept k22 (.inr (.inr (Nat.le_refl 0)))
  replace rx0 := rx0.kept k22 (.inr (.inr (Nat.le_refl 0)))
  replace rg0 := rg0.kept k22 (.inr (.inr (Nat.le_refl 0)))
  replace r80 := r80.kept k22 (.inr (.inr (Nat.le_refl 0)))
  replace A0_0 := k22.cell0 A0_0
  replace A0_1 := k22.cell0 A0_1
  replace cw0_0 := k22.cell0 cw0_0
  replace cw0_1 := k22.cell0 cw0_1
  replace cx0_0 := k22.cell0 cx0_0
  replace cx0_1 := k22.cell0 cx0_1
  replace cg0_0 := k22.cell0 cg0_0
  replace cg0_1 := k22.cell0 cg0_1
  replace K := hide ((unhide K).trans k22)
  have z23 := k22.size
  clear k22
  clear hHeld
  refine hK.out _ _ ?_ (fun hHeld => ?_)
  · exact ⟨A0_0, A0_1, cx0_0, cx0_1⟩
  clear hK KK
  try simp only [Act.put, List.getElem_toArray, List.getElem_cons_succ, List.getElem_cons_zero, List.setIfInBounds_toArray, List.set_cons_zero, List.set_cons_succ]
  refine wpAnyH_take (i := 4) (oi := _) (v := .bool false) rfl (by kernel_rfl) (by kernel_rfl) (by kernel_rfl) (fun _ _ _ h => h) (Or.inl ⟨by rfl, ?_⟩) hHeld ?_
  · intro wq hSw
    try dsimp only at hSw
    go_simp
  try simp only [Act.put, List.getElem_toArray, List.getElem_cons_succ, List.getElem_cons_zero, List.setIfInBounds_toArray, List.set_cons_zero, List.set_cons_succ]
  refine wpAnyH_done (by kernel_rfl) ?_ _
  clear hHeld
  clear r80
  have S0' := unhide S0
  go_wp2_with fail
  refine (markMat_wide (y0) _ (1) (by omega) (by omega) (by omega) rx0).mono ?_
  rintro e w24 ⟨rfl, -, k24⟩
  replace r0 := r0.kept k24 (by omega)
  replace rw0 := rw0.kept k24 (by omega)
  replace rg0 := rg0.kept k24 (by omega)
  replace A0_0 := k24.cellOut (by dsimp only; omega) A0_0
  replace A0_1 := k24.cellOut (by dsimp only; omega) A0_1
  replace cw0_0 := k24.cellOut (by dsimp only; omega) cw0_0
  replace cw0_1 := k24.cellOut (by dsimp only; omega) cw0_1
  replace cx0_0 := k24.cellOut (by dsimp only; omega) cx0_0
  replace cx0_1 := k24.cellOut (by dsimp only; omega) cx0_1
  replace cg0_0 := k24.cellOut (by dsimp only; omega) cg0_0
  replace cg0_1 := k24.cellOut (by dsimp only; omega) cg0_1
  replace K := hide ((unhide K).wide k24 (by omega))
  have z24 := k24.size
  clear k24 rx0
  have kg0 := kAt_ge z0 (1) z0.length (by omega)
  have kh0 := kAt_le z0 (1)
  have nk : ¬ (kAt z0 (1) z0.length) < 0 := by omega
  go_wp2_with fail
  refine (eqIvMat_same (H0) _ rg0.read rw0.read).mono ?_
  rintro e w25 ⟨rfl, k25⟩
  replace r0 := r0.kept k25 (.inr (.inr (Nat.le_refl 0)))
  replace rw0 := rw0.kept k25 (.inr (.inr (Nat.le_refl 0)))
  replace rg0 := rg0.kept k25 (.inr (.inr (Nat.le_refl 0)))
  replace A0_0 := k25.cell0 A0_0
  replace A0_1 := k25.cell0 A0_1
  replace cw0_0 := k25.cell0 cw0_0
  replace cw0_1 := k25.cell0 cw0_1
  replace cx0_0 := k25.cell0 cx0_0
  replace cx0_1 := k25.cell0 cx0_1
  replace cg0_0 := k25.cell0 cg0_0
  replace cg0_1 := k25.cell0 cg0_1
  replace K := hide ((unhide K).trans k25)
  have z26 := k25.size
  clear k25
  go_wp2_with fail
  refine (markIvMat_wide (H0) _ (1) (by omega) (by omega) (by omega) rg0).mono ?_
  rintro e w27 ⟨rfl, rm0, k27⟩
  replace r0 := r0.kept k27 (by omega)
  replace rw0 := rw0.kept k27 (by omega)
  replace A0_0 := k27.cellOut (by dsimp only; omega) A0_0
  replace A0_1 := k27.cellOut (by dsimp only; omega) A0_1
  replace cw0_0 := k27.cellOut (by dsimp only; omega) cw0_0
  replace cw0_1 := k27.cellOut (by dsimp only; omega) cw0_1
  replace cx0_0 := k27.cellOut (by dsimp only; omega) cx0_0
  replace cx0_1 := k27.cellOut (by dsimp only; omega) cx0_1
  replace cg0_0 := k27.cellOut (by dsimp only; omega) cg0_0
  replace cg0_1 := k27.cellOut (by dsimp only; omega) cg0_1
  replace K := hide ((unhide K).wide k27 (by omega))
  have z27 := k27.size
  clear k27 rg0
  go_wp2_with fail
  refine (heldIvMat_any (H0) _ (1) (by omega) (by omega) (by omega) rm0.read).mono ?_
  rintro e w28 ⟨rfl, k28⟩
  replace r0 := r0.kept k28 (.inr (.inr (Nat.le_refl 0)))
  replace rw0 := rw0.kept k28 (.inr (.inr (Nat.le_refl 0)))
  replace rm0 := rm0.kept k28 (.inr (.inr (Nat.le_refl 0)))
  replace A0_0 := k28.cell0 A0_0
  replace A0_1 := k28.cell0 A0_1
  replace cw0_0 := k28.cell0 cw0_0
  replace cw0_1 := k28.cell0 cw0_1
  replace cx0_0 := k28.cell0 cx0_0
  replace cx0_1 := k28.cell0 cx0_1
  replace cg0_0 := k28.cell0 cg0_0
  replace cg0_1 := k28.cell0 cg0_1
  replace K := hide ((unhide K).trans k28)
  have z29 := k28.size
  clear k28
  have nq029 : ¬ kAt L0 (1) L0.length < 0 := by omega
  go_wp2_with fail
  refine (toMat_any (y0) _ hn0 hl0 r0).mono ?_
  rintro e w30 ⟨vyh0, rfl, ryh0, k30⟩
  replace r0 := r0.kept k30 (.inr (.inr (Nat.le_refl 0)))
  replace rw0 := rw0.kept k30 (.inr (.inr (Nat.le_refl 0)))
  replace rm0 := rm0.kept k30 (.inr (.inr (Nat.le_refl 0)))
  replace A0_0 := k30.cell0 A0_0
  replace A0_1 := k30.cell0 A0_1
  replace cw0_0 := k30.cell0 cw0_0
  replace cw0_1 := k30.cell0 cw0_1
  replace cx0_0 := k30.cell0 cx0_0
  replace cx0_1 := k30.cell0 cx0_1
  replace cg0_0 := k30.cell0 cg0_0
  replace cg0_1 := k30.cell0 cg0_1
  replace K := hide ((unhide K).trans k30)
  have z31 := k30.size
  clear k30
  go_wp2_with fail
  have mk := ivMatOf_impl y0 w30 q0 ryh0.read (T.kept (unhide K))
  simp only [unhide EB1, unhide EC0, unhide EL0, unhide EH0] at mk
  refine (mk).mono ?_
  rintro e w32 ⟨vh0, rfl, rh0, k32⟩
  replace r0 := r0.kept k32 (.inr (.inr (Nat.le_refl 0)))
  replace rw0 := rw0.kept k32 (.inr (.inr (Nat.le_refl 0)))
  replace rm0 := rm0.kept k32 (.inr (.inr (Nat.le_refl 0)))
  replace ryh0 := ryh0.kept k32 (.inr (.inr (Nat.le_refl 0)))
  replace A0_0 := k32.cell0 A0_0
  replace A0_1 := k32.cell0 A0_1
  replace cw0_0 := k32.cell0 cw0_0
  replace cw0_1 := k32.cell0 cw0_1
  replace cx0_0 := k32.cell0 cx0_0
  replace cx0_1 := k32.cell0 cx0_1
  replace cg0_0 := k32.cell0 cg0_0
  replace cg0_1 := k32.cell0 cg0_1
  replace K := hide ((unhide K).trans k32)
  have z33 := k32.size
  clear k32
  clear mk
  clear ryh0
  obtain ⟨ah0, dh0, hv⟩ := rh0.form'
  subst hv
  have kn := (Kept.refl 0 0 w32).alloc (.cells #[.int .i64 H0, .slice ah0 C0 dh0] 28)
  have ch0_0 : (w32.alloc (.cells #[.int .i64 H0, .slice ah0 C0 dh0] 28)).cell? ⟨w32.heap.size, 0, none⟩ = some (.int .i64 H0) := new_cell2 _ _ _ _ _ _ rfl rfl
  have ch0_1 : (w32.alloc (.cells #[.int .i64 H0, .slice ah0 C0 dh0] 28)).cell? ⟨w32.heap.size, 1, none⟩ = some (.slice ah0 C0 dh0) := new_cell2 _ _ _ _ _ _ rfl rfl
  have t34 : w32.heap.size + 1 ≤ (w32.alloc (.cells #[.int .i64 H0, .slice ah0 C0 dh0] 28)).heap.size := by simp
  replace r0 := r0.kept kn (.inr (.inr (Nat.le_refl 0)))
  replace rw0 := rw0.kept kn (.inr (.inr (Nat.le_refl 0)))
  replace rm0 := rm0.kept kn (.inr (.inr (Nat.le_refl 0)))
  replace rh0 := rh0.kept kn (.inr (.inr (Nat.le_refl 0)))
  replace A0_0 := kn.cell0 A0_0
  replace A0_1 := kn.cell0 A0_1
  replace cw0_0 := kn.cell0 cw0_0
  replace cw0_1 := kn.cell0 cw0_1
  replace cx0_0 := kn.cell0 cx0_0
  replace cx0_1 := kn.cell0 cx0_1
  replace cg0_0 := kn.cell0 cg0_0
  replace cg0_1 := kn.cell0 cg0_1
  replace K := hide ((unhide K).trans kn)
  have z35 := kn.size
  clear kn
  go_wp2_with fail
  generalize w32.alloc (.cells #[.int .i64 H0, .slice ah0 C0 dh0] 28) = wm34 at *
  refine (eqIvMat_same (H0) _ rh0.read rw0.read).mono ?_
  rintro e w36 ⟨rfl, k36⟩
  replace r0 := r0.kept k36 (.inr (.inr (Nat.le_refl 0)))
  replace rw0 := rw0.kept k36 (.inr (.inr (Nat.le_refl 0)))
  replace rm0 := rm0.kept k36 (.inr (.inr (Nat.le_refl 0)))
  replace rh0 := rh0.kept k36 (.inr (.inr (Nat.le_refl 0)))
  replace A0_0 := k36.cell0 A0_0
  replace A0_1 := k36.cell0 A0_1
  replace cw0_0 := k36.cell0 cw0_0
  replace cw0_1 := k36.cell0 cw0_1
  replace cx0_0 := k36.cell0 cx0_0
  replace cx0_1 := k36.cell0 cx0_1
  replace cg0_0 := k36.cell0 cg0_0
  replace cg0_1 := k36.cell0 cg0_1
  replace ch0_0 := k36.cell0 ch0_0
  replace ch0_1 := k36.cell0 ch0_1
  replace K := hide ((unhide K).trans k36)
  have z37 := k36.size
  clear k36
  go_wp2_with fail
  refine (heldIvMat_any (H0) _ (1) (by omega) (by omega) (by omega) rm0.read).mono ?_
  rintro e w38 ⟨rfl, k38⟩
  replace r0 := r0.kept k38 (.inr (.inr (Nat.le_refl 0)))
  replace rw0 := rw0.kept k38 (.inr (.inr (Nat.le_refl 0)))
  replace rm0 := rm0.kept k38 (.inr (.inr (Nat.le_refl 0)))
  replace rh0 := rh0.kept k38 (.inr (.inr (Nat.le_refl 0)))
  replace A0_0 := k38.cell0 A0_0
  replace A0_1 := k38.cell0 A0_1
  replace cw0_0 := k38.cell0 cw0_0
  replace cw0_1 := k38.cell0 cw0_1
  replace cx0_0 := k38.cell0 cx0_0
  replace cx0_1 := k38.cell0 cx0_1
  replace cg0_0 := k38.cell0 cg0_0
  replace cg0_1 := k38.cell0 cg0_1
  replace ch0_0 := k38.cell0 ch0_0
  replace ch0_1 := k38.cell0 ch0_1
  replace K := hide ((unhide K).trans k38)
  have z39 := k38.size
  clear k38
  have nq039 : ¬ kAt L0 (1) L0.length < 0 := by omega
  go_wp2_with fail
  go_ret
  exact ⟨rfl, (unhide K).toBelow⟩

end Go.Proofs.YthahoabkehcgbaaDoor
