/-
  The walk of the law FnExactIvRoot: it returns true at every argument.
-/
import Derived.Test.YtadbdchjhglldaaGreatDoorIv9
import Derived.Test.YtadbdchjhglldaaGreatDoorIv10
import Derived.Test.YtadbdchjhglldaaGreatDoorBJ
import Derived.Deep.DeepCutAuto
namespace Go.Proofs.YtadbdchjhglldaaGreatDoor
open Go.RowKit
set_option linter.unusedVariables false
set_option maxRecDepth 8000
set_option linter.unusedSimpArgs false

theorem wf_IvRoot {n : Int} (h : (Lit.int .i64 n).wf = true) : n ≤ 9223372036854775807 ∧ -9223372036854775808 ≤ n := by
  have e : (Lit.int .i64 n).wf = (decide (IntKind.i64.min ≤ n) && decide (n ≤ IntKind.i64.max)) := rfl
  rw [e, show IntKind.i64.min = -9223372036854775808 by decide, show IntKind.i64.max = 9223372036854775807 by decide] at h
  simp at h
  omega

set_option maxHeartbeats 16000000 in
theorem law_IvRoot {u0 : Value} {z0 : List Int} {u0b : Value} {z0b : List Int} {w : World} (s0 : Bool) (y0 : Int) (r0 : Row .i64 false 0 w.heap.size w u0 z0) (fy0 : (Lit.int .i64 y0).wf = true) (s0b : Bool) (y0b : Int) (r0b : Row .i64 false 0 w.heap.size w u0b z0b) (fy0b : (Lit.int .i64 y0b).wf = true) (p1 : Int) (f1 : (Lit.int .i64 p1).wf = true) (T : TabB w) :
    Calls Tryz.prog 3 #[.agg #[.bool s0, u0, .int .i64 y0, .bool s0b, u0b, .int .i64 y0b], .int .i64 p1] w fun e w' => e = .returned (.bool true) ∧ Below w.heap.size w w' := by
  have gy0 : y0 ≤ 9223372036854775807 ∧ -9223372036854775808 ≤ y0 := wf_IvRoot fy0
  clear fy0
  have gy0b : y0b ≤ 9223372036854775807 ∧ -9223372036854775808 ≤ y0b := wf_IvRoot fy0b
  clear fy0b
  have g1 : p1 ≤ 9223372036854775807 ∧ -9223372036854775808 ≤ p1 := wf_IvRoot f1
  clear f1
  obtain ⟨B1, hB1⟩ : ∃ B, ivC ((iokB s0 z0 y0 s0b z0b y0b && fineB p1) && !s0) (rtM (3 : Int).toNat (val z0).toNat (y0 - 2 * (p1 - 1))) (p1) (rtM (2 : Int).toNat (val z0b).toNat (y0b - 2 * (p1 - 1))) (p1) = B := ⟨_, rfl⟩
  obtain ⟨L0, hL0⟩ : ∃ L, (if B1 = true then dlm (rtM (3 : Int).toNat (val z0).toNat (y0 - 2 * (p1 - 1))) else []) = L := ⟨_, rfl⟩
  obtain ⟨H0, hH0⟩ : ∃ H, (if B1 = true then dex (rtM (3 : Int).toNat (val z0).toNat (y0 - 2 * (p1 - 1))) (p1) else 0) = H := ⟨_, rfl⟩
  obtain ⟨G0, hG0⟩ : ∃ G, (B1 && wsg (rtM (3 : Int).toNat (val z0).toNat (y0 - 2 * (p1 - 1)))) = G := ⟨_, rfl⟩
  obtain ⟨L0b, hL0b⟩ : ∃ L, (if B1 = true then dlm (rtM (2 : Int).toNat (val z0b).toNat (y0b - 2 * (p1 - 1))) else []) = L := ⟨_, rfl⟩
  obtain ⟨H0b, hH0b⟩ : ∃ H, (if B1 = true then dex (rtM (2 : Int).toNat (val z0b).toNat (y0b - 2 * (p1 - 1))) (p1) else 0) = H := ⟨_, rfl⟩
  obtain ⟨G0b, hG0b⟩ : ∃ G, (B1 && wsg (rtM (2 : Int).toNat (val z0b).toNat (y0b - 2 * (p1 - 1)))) = G := ⟨_, rfl⟩
  have hn'0 : L0.length ≤ 100 := by rw [← hL0]; exact (by rw [← hB1]; exact ivC_len.1)
  have hq0 : L0.length ≤ 1099511627776 := by omega
  have hn'0b : L0b.length ≤ 100 := by rw [← hL0b]; exact (by rw [← hB1]; exact ivC_len.2)
  have hq0b : L0b.length ≤ 1099511627776 := by omega
  have hm0 := r0.len
  unfold maxLen at hm0
  have hm0b := r0b.len
  unfold maxLen at hm0b
  obtain ⟨Wn, hn0⟩ : ∃ wz, wz = (w.alloc (.cells #[.bool s0, u0, .int .i64 y0, .bool s0b, u0b, .int .i64 y0b] 30)) := ⟨_, rfl⟩
  have k0 : Kept 0 0 w Wn := by rw [hn0]; exact ((Kept.refl 0 0 w).alloc _)
  have A0_0 : Wn.cell? ⟨w.heap.size, 0, none⟩ = some (.bool s0) := by rw [hn0]; exact new_cell2 _ _ _ _ _ _ (by simp) rfl
  have A0_1 : Wn.cell? ⟨w.heap.size, 1, none⟩ = some (u0) := by rw [hn0]; exact new_cell2 _ _ _ _ _ _ (by simp) rfl
  have A0_2 : Wn.cell? ⟨w.heap.size, 2, none⟩ = some (.int .i64 y0) := by rw [hn0]; exact new_cell2 _ _ _ _ _ _ (by simp) rfl
  have A0_3 : Wn.cell? ⟨w.heap.size, 3, none⟩ = some (.bool s0b) := by rw [hn0]; exact new_cell2 _ _ _ _ _ _ (by simp) rfl
  have A0_4 : Wn.cell? ⟨w.heap.size, 4, none⟩ = some (u0b) := by rw [hn0]; exact new_cell2 _ _ _ _ _ _ (by simp) rfl
  have A0_5 : Wn.cell? ⟨w.heap.size, 5, none⟩ = some (.int .i64 y0b) := by rw [hn0]; exact new_cell2 _ _ _ _ _ _ (by simp) rfl
  subst hn0
  replace r0 := r0.kept k0 (by omega)
  replace r0b := r0b.kept k0 (by omega)
  have s0 : (w.alloc (.cells #[.bool s0, u0, .int .i64 y0, .bool s0b, u0b, .int .i64 y0b] 30)).heap.size = w.heap.size + 1 := by simp
  obtain ⟨a0, c0, hv⟩ := r0.form'
  subst hv
  obtain ⟨a0b, c0b, hv⟩ := r0b.form'
  subst hv
  have K := hide (k0)
  clear k0
  have S0 := hide s0
  clear s0
  have EB1 := hide hB1
  have EL0 := hide hL0
  have EH0 := hide hH0
  have EG0 := hide hG0
  have EL0b := hide hL0b
  have EH0b := hide hH0b
  have EG0b := hide hG0b
  clear hB1 hL0 hH0 hG0 hL0b hH0b hG0b
  go_enter Tryz.func3, Tryz.ntmps3
  skip
  go_wp2_with fail
  generalize (w.alloc (.cells #[.bool s0, .slice a0 z0.length c0, .int .i64 y0, .bool s0b, .slice a0b z0b.length c0b, .int .i64 y0b] 30)) = W at *
  refine (szIv_any (s0) (y0) (s0b) (y0b) _ (1048576) (by omega) (by omega) r0 r0b).mono ?_
  rintro e w1 ⟨rfl, k1⟩
  replace r0 := r0.kp k1
  replace r0b := r0b.kp k1
  replace A0_0 := k1.cell0 A0_0
  replace A0_1 := k1.cell0 A0_1
  replace A0_2 := k1.cell0 A0_2
  replace A0_3 := k1.cell0 A0_3
  replace A0_4 := k1.cell0 A0_4
  replace A0_5 := k1.cell0 A0_5
  replace K := hide ((unhide K).trans k1)
  have z2 := k1.size
  clear k1
  by_cases big0 : ((z0.length : Int) + (z0b.length : Int)) ≤ 1048576
  rotate_left
  ·rw [if_neg big0]
   go_wp2_with fail
   go_ret
   exact ⟨rfl, (unhide K).toBelow⟩
  rw [if_pos big0]
  have nb0 : ¬ (1048576 - ((z0.length : Int) + (z0b.length : Int))) < 0 := by omega
  have hn0 : z0.length ≤ 1099511627776 := by omega
  have hn0b : z0b.length ≤ 1099511627776 := by omega
  go_wp2_with fail
  refine (toIv_any (s0) (y0) (s0b) (y0b) _ hn0 hn0b r0 r0b).mono ?_
  rintro e w3 ⟨vyw0, vyw0b, mmyw0, rfl, ryw0, ryw0b, hmayw0, hmbyw0, k3⟩
  replace r0 := r0.kp k3
  replace r0b := r0b.kp k3
  replace A0_0 := k3.cell0 A0_0
  replace A0_1 := k3.cell0 A0_1
  replace A0_2 := k3.cell0 A0_2
  replace A0_3 := k3.cell0 A0_3
  replace A0_4 := k3.cell0 A0_4
  replace A0_5 := k3.cell0 A0_5
  replace K := hide ((unhide K).trans k3)
  have z4 := k3.size
  clear k3
  go_wp2_with fail
  have mk := ivroot_spec s0 y0 gy0.1 gy0.2 s0b y0b gy0b.1 gy0b.2 w3 ryw0 ryw0b p1
  unfold IvAnsS at mk
  simp only [unhide EB1, unhide EL0, unhide EH0, unhide EG0, unhide EL0b, unhide EH0b, unhide EG0b] at mk
  refine (mk).mono ?_
  rintro e w5 ⟨vw0, vw0b, rfl, rw0, rw0b, k5⟩
  replace r0 := r0.kp k5
  replace r0b := r0b.kp k5
  replace ryw0 := ryw0.kp k5
  replace ryw0b := ryw0b.kp k5
  replace A0_0 := k5.cell0 A0_0
  replace A0_1 := k5.cell0 A0_1
  replace A0_2 := k5.cell0 A0_2
  replace A0_3 := k5.cell0 A0_3
  replace A0_4 := k5.cell0 A0_4
  replace A0_5 := k5.cell0 A0_5
  replace K := hide ((unhide K).trans k5)
  have z6 := k5.size
  clear k5
  clear mk
  clear ryw0 ryw0b
  obtain ⟨aw0, dw0, hv⟩ := Row.form' rw0
  subst hv
  obtain ⟨aw0b, dw0b, hv⟩ := Row.form' rw0b
  subst hv
  have kn := (Kept.refl 0 0 w5).alloc (.cells #[.bool G0, .slice aw0 L0.length dw0, .int .i64 H0, .bool G0b, .slice aw0b L0b.length dw0b, .int .i64 H0b] 38)
  have cw0_0 : (w5.alloc (.cells #[.bool G0, .slice aw0 L0.length dw0, .int .i64 H0, .bool G0b, .slice aw0b L0b.length dw0b, .int .i64 H0b] 38)).cell? ⟨w5.heap.size, 0, none⟩ = some (.bool G0) := new_cell2 _ _ _ _ _ _ rfl rfl
  have cw0_1 : (w5.alloc (.cells #[.bool G0, .slice aw0 L0.length dw0, .int .i64 H0, .bool G0b, .slice aw0b L0b.length dw0b, .int .i64 H0b] 38)).cell? ⟨w5.heap.size, 1, none⟩ = some (.slice aw0 L0.length dw0) := new_cell2 _ _ _ _ _ _ rfl rfl
  have cw0_2 : (w5.alloc (.cells #[.bool G0, .slice aw0 L0.length dw0, .int .i64 H0, .bool G0b, .slice aw0b L0b.length dw0b, .int .i64 H0b] 38)).cell? ⟨w5.heap.size, 2, none⟩ = some (.int .i64 H0) := new_cell2 _ _ _ _ _ _ rfl rfl
  have cw0_3 : (w5.alloc (.cells #[.bool G0, .slice aw0 L0.length dw0, .int .i64 H0, .bool G0b, .slice aw0b L0b.length dw0b, .int .i64 H0b] 38)).cell? ⟨w5.heap.size, 3, none⟩ = some (.bool G0b) := new_cell2 _ _ _ _ _ _ rfl rfl
  have cw0_4 : (w5.alloc (.cells #[.bool G0, .slice aw0 L0.length dw0, .int .i64 H0, .bool G0b, .slice aw0b L0b.length dw0b, .int .i64 H0b] 38)).cell? ⟨w5.heap.size, 4, none⟩ = some (.slice aw0b L0b.length dw0b) := new_cell2 _ _ _ _ _ _ rfl rfl
  have cw0_5 : (w5.alloc (.cells #[.bool G0, .slice aw0 L0.length dw0, .int .i64 H0, .bool G0b, .slice aw0b L0b.length dw0b, .int .i64 H0b] 38)).cell? ⟨w5.heap.size, 5, none⟩ = some (.int .i64 H0b) := new_cell2 _ _ _ _ _ _ rfl rfl
  have t7 : w5.heap.size + 1 ≤ (w5.alloc (.cells #[.bool G0, .slice aw0 L0.length dw0, .int .i64 H0, .bool G0b, .slice aw0b L0b.length dw0b, .int .i64 H0b] 38)).heap.size := by simp
  replace r0 := r0.kp kn
  replace r0b := r0b.kp kn
  replace rw0 := rw0.kp kn
  replace rw0b := rw0b.kp kn
  replace A0_0 := kn.cell0 A0_0
  replace A0_1 := kn.cell0 A0_1
  replace A0_2 := kn.cell0 A0_2
  replace A0_3 := kn.cell0 A0_3
  replace A0_4 := kn.cell0 A0_4
  replace A0_5 := kn.cell0 A0_5
  replace K := hide ((unhide K).trans kn)
  have z8 := kn.size
  clear kn
  go_wp2_with fail
  generalize w5.alloc (.cells #[.bool G0, .slice aw0 L0.length dw0, .int .i64 H0, .bool G0b, .slice aw0b L0b.length dw0b, .int .i64 H0b] 38) = wm7 at *
  refine (toIv_any (s0) (y0) (s0b) (y0b) _ hn0 hn0b r0 r0b).mono ?_
  rintro e w9 ⟨vx0, vx0b, mmx0, rfl, rx0, rx0b, hmax0, hmbx0, k9⟩
  replace r0 := r0.kp k9
  replace r0b := r0b.kp k9
  replace rw0 := rw0.kp k9
  replace rw0b := rw0b.kp k9
  replace A0_0 := k9.cell0 A0_0
  replace A0_1 := k9.cell0 A0_1
  replace A0_2 := k9.cell0 A0_2
  replace A0_3 := k9.cell0 A0_3
  replace A0_4 := k9.cell0 A0_4
  replace A0_5 := k9.cell0 A0_5
  replace cw0_0 := k9.cell0 cw0_0
  replace cw0_1 := k9.cell0 cw0_1
  replace cw0_2 := k9.cell0 cw0_2
  replace cw0_3 := k9.cell0 cw0_3
  replace cw0_4 := k9.cell0 cw0_4
  replace cw0_5 := k9.cell0 cw0_5
  replace K := hide ((unhide K).trans k9)
  have z10 := k9.size
  clear k9
  obtain ⟨ax0, dx0, hv⟩ := Row.form' rx0
  subst hv
  obtain ⟨ax0b, dx0b, hv⟩ := Row.form' rx0b
  subst hv
  have kn := (Kept.refl 0 0 w9).alloc (.cells #[.bool s0, .slice ax0 z0.length dx0, .int .i64 y0, .bool s0b, .slice ax0b z0b.length dx0b, .int .i64 y0b] 38)
  have cx0_0 : (w9.alloc (.cells #[.bool s0, .slice ax0 z0.length dx0, .int .i64 y0, .bool s0b, .slice ax0b z0b.length dx0b, .int .i64 y0b] 38)).cell? ⟨w9.heap.size, 0, none⟩ = some (.bool s0) := new_cell2 _ _ _ _ _ _ rfl rfl
  have cx0_1 : (w9.alloc (.cells #[.bool s0, .slice ax0 z0.length dx0, .int .i64 y0, .bool s0b, .slice ax0b z0b.length dx0b, .int .i64 y0b] 38)).cell? ⟨w9.heap.size, 1, none⟩ = some (.slice ax0 z0.length dx0) := new_cell2 _ _ _ _ _ _ rfl rfl
  have cx0_2 : (w9.alloc (.cells #[.bool s0, .slice ax0 z0.length dx0, .int .i64 y0, .bool s0b, .slice ax0b z0b.length dx0b, .int .i64 y0b] 38)).cell? ⟨w9.heap.size, 2, none⟩ = some (.int .i64 y0) := new_cell2 _ _ _ _ _ _ rfl rfl
  have cx0_3 : (w9.alloc (.cells #[.bool s0, .slice ax0 z0.length dx0, .int .i64 y0, .bool s0b, .slice ax0b z0b.length dx0b, .int .i64 y0b] 38)).cell? ⟨w9.heap.size, 3, none⟩ = some (.bool s0b) := new_cell2 _ _ _ _ _ _ rfl rfl
  have cx0_4 : (w9.alloc (.cells #[.bool s0, .slice ax0 z0.length dx0, .int .i64 y0, .bool s0b, .slice ax0b z0b.length dx0b, .int .i64 y0b] 38)).cell? ⟨w9.heap.size, 4, none⟩ = some (.slice ax0b z0b.length dx0b) := new_cell2 _ _ _ _ _ _ rfl rfl
  have cx0_5 : (w9.alloc (.cells #[.bool s0, .slice ax0 z0.length dx0, .int .i64 y0, .bool s0b, .slice ax0b z0b.length dx0b, .int .i64 y0b] 38)).cell? ⟨w9.heap.size, 5, none⟩ = some (.int .i64 y0b) := new_cell2 _ _ _ _ _ _ rfl rfl
  have t11 : w9.heap.size + 1 ≤ (w9.alloc (.cells #[.bool s0, .slice ax0 z0.length dx0, .int .i64 y0, .bool s0b, .slice ax0b z0b.length dx0b, .int .i64 y0b] 38)).heap.size := by simp
  replace r0 := r0.kp kn
  replace r0b := r0b.kp kn
  replace rw0 := rw0.kp kn
  replace rw0b := rw0b.kp kn
  replace rx0 := rx0.kp kn
  replace rx0b := rx0b.kp kn
  replace A0_0 := kn.cell0 A0_0
  replace A0_1 := kn.cell0 A0_1
  replace A0_2 := kn.cell0 A0_2
  replace A0_3 := kn.cell0 A0_3
  replace A0_4 := kn.cell0 A0_4
  replace A0_5 := kn.cell0 A0_5
  replace cw0_0 := kn.cell0 cw0_0
  replace cw0_1 := kn.cell0 cw0_1
  replace cw0_2 := kn.cell0 cw0_2
  replace cw0_3 := kn.cell0 cw0_3
  replace cw0_4 := kn.cell0 cw0_4
  replace cw0_5 := kn.cell0 cw0_5
  replace K := hide ((unhide K).trans kn)
  have z12 := kn.size
  clear kn
  go_wp2_with fail
  generalize w9.alloc (.cells #[.bool s0, .slice ax0 z0.length dx0, .int .i64 y0, .bool s0b, .slice ax0b z0b.length dx0b, .int .i64 y0b] 38) = wm11 at *
  have mk := ivroot_impl s0 y0 gy0.1 gy0.2 s0b y0b gy0b.1 gy0b.2 wm11 rx0 rx0b p1 (T.kept (unhide K))
  unfold IvAns at mk
  simp only [unhide EB1, unhide EL0, unhide EH0, unhide EG0, unhide EL0b, unhide EH0b, unhide EG0b] at mk
  refine (mk).mono ?_
  rintro e w13 ⟨vg0, vg0b, mmg0, rfl, rg0, rg0b, hmag0, hmbg0, k13⟩
  replace r0 := r0.kp k13
  replace r0b := r0b.kp k13
  replace rw0 := rw0.kp k13
  replace rw0b := rw0b.kp k13
  replace rx0 := rx0.kp k13
  replace rx0b := rx0b.kp k13
  replace A0_0 := k13.cell0 A0_0
  replace A0_1 := k13.cell0 A0_1
  replace A0_2 := k13.cell0 A0_2
  replace A0_3 := k13.cell0 A0_3
  replace A0_4 := k13.cell0 A0_4
  replace A0_5 := k13.cell0 A0_5
  replace cw0_0 := k13.cell0 cw0_0
  replace cw0_1 := k13.cell0 cw0_1
  replace cw0_2 := k13.cell0 cw0_2
  replace cw0_3 := k13.cell0 cw0_3
  replace cw0_4 := k13.cell0 cw0_4
  replace cw0_5 := k13.cell0 cw0_5
  replace cx0_0 := k13.cell0 cx0_0
  replace cx0_1 := k13.cell0 cx0_1
  replace cx0_2 := k13.cell0 cx0_2
  replace cx0_3 := k13.cell0 cx0_3
  replace cx0_4 := k13.cell0 cx0_4
  replace cx0_5 := k13.cell0 cx0_5
  replace K := hide ((unhide K).trans k13)
  have z14 := k13.size
  clear k13
  clear mk
  obtain ⟨ag0, dg0, hv⟩ := Row.form' rg0
  subst hv
  obtain ⟨ag0b, dg0b, hv⟩ := Row.form' rg0b
  subst hv
  have kn := (Kept.refl 0 0 w13).alloc (.cells #[.bool G0, .slice ag0 L0.length dg0, .int .i64 H0, .bool G0b, .slice ag0b L0b.length dg0b, .int .i64 H0b] 38)
  have cg0_0 : (w13.alloc (.cells #[.bool G0, .slice ag0 L0.length dg0, .int .i64 H0, .bool G0b, .slice ag0b L0b.length dg0b, .int .i64 H0b] 38)).cell? ⟨w13.heap.size, 0, none⟩ = some (.bool G0) := new_cell2 _ _ _ _ _ _ rfl rfl
  have cg0_1 : (w13.alloc (.cells #[.bool G0, .slice ag0 L0.length dg0, .int .i64 H0, .bool G0b, .slice ag0b L0b.length dg0b, .int .i64 H0b] 38)).cell? ⟨w13.heap.size, 1, none⟩ = some (.slice ag0 L0.length dg0) := new_cell2 _ _ _ _ _ _ rfl rfl
  have cg0_2 : (w13.alloc (.cells #[.bool G0, .slice ag0 L0.length dg0, .int .i64 H0, .bool G0b, .slice ag0b L0b.length dg0b, .int .i64 H0b] 38)).cell? ⟨w13.heap.size, 2, none⟩ = some (.int .i64 H0) := new_cell2 _ _ _ _ _ _ rfl rfl
  have cg0_3 : (w13.alloc (.cells #[.bool G0, .slice ag0 L0.length dg0, .int .i64 H0, .bool G0b, .slice ag0b L0b.length dg0b, .int .i64 H0b] 38)).cell? ⟨w13.heap.size, 3, none⟩ = some (.bool G0b) := new_cell2 _ _ _ _ _ _ rfl rfl
  have cg0_4 : (w13.alloc (.cells #[.bool G0, .slice ag0 L0.length dg0, .int .i64 H0, .bool G0b, .slice ag0b L0b.length dg0b, .int .i64 H0b] 38)).cell? ⟨w13.heap.size, 4, none⟩ = some (.slice ag0b L0b.length dg0b) := new_cell2 _ _ _ _ _ _ rfl rfl
  have cg0_5 : (w13.alloc (.cells #[.bool G0, .slice ag0 L0.length dg0, .int .i64 H0, .bool G0b, .slice ag0b L0b.length dg0b, .int .i64 H0b] 38)).cell? ⟨w13.heap.size, 5, none⟩ = some (.int .i64 H0b) := new_cell2 _ _ _ _ _ _ rfl rfl
  have t15 : w13.heap.size + 1 ≤ (w13.alloc (.cells #[.bool G0, .slice ag0 L0.length dg0, .int .i64 H0, .bool G0b, .slice ag0b L0b.length dg0b, .int .i64 H0b] 38)).heap.size := by simp
  replace r0 := r0.kp kn
  replace r0b := r0b.kp kn
  replace rw0 := rw0.kp kn
  replace rw0b := rw0b.kp kn
  replace rx0 := rx0.kp kn
  replace rx0b := rx0b.kp kn
  replace rg0 := rg0.kp kn
  replace rg0b := rg0b.kp kn
  replace A0_0 := kn.cell0 A0_0
  replace A0_1 := kn.cell0 A0_1
  replace A0_2 := kn.cell0 A0_2
  replace A0_3 := kn.cell0 A0_3
  replace A0_4 := kn.cell0 A0_4
  replace A0_5 := kn.cell0 A0_5
  replace cw0_0 := kn.cell0 cw0_0
  replace cw0_1 := kn.cell0 cw0_1
  replace cw0_2 := kn.cell0 cw0_2
  replace cw0_3 := kn.cell0 cw0_3
  replace cw0_4 := kn.cell0 cw0_4
  replace cw0_5 := kn.cell0 cw0_5
  replace cx0_0 := kn.cell0 cx0_0
  replace cx0_1 := kn.cell0 cx0_1
  replace cx0_2 := kn.cell0 cx0_2
  replace cx0_3 := kn.cell0 cx0_3
  replace cx0_4 := kn.cell0 cx0_4
  replace cx0_5 := kn.cell0 cx0_5
  replace K := hide ((unhide K).trans kn)
  have z16 := kn.size
  clear kn
  go_wp2_with fail
  generalize w13.alloc (.cells #[.bool G0, .slice ag0 L0.length dg0, .int .i64 H0, .bool G0b, .slice ag0b L0b.length dg0b, .int .i64 H0b] 38) = wm15 at *
  refine (eqIv_same (G0) (H0) (G0b) (H0b) _ rg0 rg0b rw0 rw0b).mono ?_
  rintro e w17 ⟨rfl, k17⟩
  replace r0 := r0.kp k17
  replace r0b := r0b.kp k17
  replace rw0 := rw0.kp k17
  replace rw0b := rw0b.kp k17
  replace rx0 := rx0.kp k17
  replace rx0b := rx0b.kp k17
  replace rg0 := rg0.kp k17
  replace rg0b := rg0b.kp k17
  replace A0_0 := k17.cell0 A0_0
  replace A0_1 := k17.cell0 A0_1
  replace A0_2 := k17.cell0 A0_2
  replace A0_3 := k17.cell0 A0_3
  replace A0_4 := k17.cell0 A0_4
  replace A0_5 := k17.cell0 A0_5
  replace cw0_0 := k17.cell0 cw0_0
  replace cw0_1 := k17.cell0 cw0_1
  replace cw0_2 := k17.cell0 cw0_2
  replace cw0_3 := k17.cell0 cw0_3
  replace cw0_4 := k17.cell0 cw0_4
  replace cw0_5 := k17.cell0 cw0_5
  replace cx0_0 := k17.cell0 cx0_0
  replace cx0_1 := k17.cell0 cx0_1
  replace cx0_2 := k17.cell0 cx0_2
  replace cx0_3 := k17.cell0 cx0_3
  replace cx0_4 := k17.cell0 cx0_4
  replace cx0_5 := k17.cell0 cx0_5
  replace cg0_0 := k17.cell0 cg0_0
  replace cg0_1 := k17.cell0 cg0_1
  replace cg0_2 := k17.cell0 cg0_2
  replace cg0_3 := k17.cell0 cg0_3
  replace cg0_4 := k17.cell0 cg0_4
  replace cg0_5 := k17.cell0 cg0_5
  replace K := hide ((unhide K).trans k17)
  have z18 := k17.size
  clear k17
  go_wp2_with fail
  have kd := (Kept.refl 0 0 w17).drew
  replace r0 := r0.kp kd
  replace r0b := r0b.kp kd
  replace rw0 := rw0.kp kd
  replace rw0b := rw0b.kp kd
  replace rx0 := rx0.kp kd
  replace rx0b := rx0b.kp kd
  replace rg0 := rg0.kp kd
  replace rg0b := rg0b.kp kd
  replace A0_0 := kd.cell0 A0_0
  replace A0_1 := kd.cell0 A0_1
  replace A0_2 := kd.cell0 A0_2
  replace A0_3 := kd.cell0 A0_3
  replace A0_4 := kd.cell0 A0_4
  replace A0_5 := kd.cell0 A0_5
  replace cw0_0 := kd.cell0 cw0_0
  replace cw0_1 := kd.cell0 cw0_1
  replace cw0_2 := kd.cell0 cw0_2
  replace cw0_3 := kd.cell0 cw0_3
  replace cw0_4 := kd.cell0 cw0_4
  replace cw0_5 := kd.cell0 cw0_5
  replace cx0_0 := kd.cell0 cx0_0
  replace cx0_1 := kd.cell0 cx0_1
  replace cx0_2 := kd.cell0 cx0_2
  replace cx0_3 := kd.cell0 cx0_3
  replace cx0_4 := kd.cell0 cx0_4
  replace cx0_5 := kd.cell0 cx0_5
  replace cg0_0 := kd.cell0 cg0_0
  replace cg0_1 := kd.cell0 cg0_1
  replace cg0_2 := kd.cell0 cg0_2
  replace cg0_3 := kd.cell0 cg0_3
  replace cg0_4 := kd.cell0 cg0_4
  replace cg0_5 := kd.cell0 cg0_5
  replace K := hide ((unhide K).trans kd)
  have z19 := kd.size
  clear kd
  refine wp_region_held_drew (S := (fun w' => w'.cell? ⟨w.heap.size, 0, none⟩ = some (.bool s0) ∧ w'.cell? ⟨w.heap.size, 1, none⟩ = some (.slice a0 z0.length c0) ∧ w'.cell? ⟨w.heap.size, 2, none⟩ = some (.int .i64 y0) ∧ w'.cell? ⟨w.heap.size, 3, none⟩ = some (.bool s0b) ∧ w'.cell? ⟨w.heap.size, 4, none⟩ = some (.slice a0b z0b.length c0b) ∧ w'.cell? ⟨w.heap.size, 5, none⟩ = some (.int .i64 y0b) ∧ w'.cell? ⟨w9.heap.size, 0, none⟩ = some (.bool s0) ∧ w'.cell? ⟨w9.heap.size, 1, none⟩ = some (.slice ax0 z0.length dx0) ∧ w'.cell? ⟨w9.heap.size, 2, none⟩ = some (.int .i64 y0) ∧ w'.cell? ⟨w9.heap.size, 3, none⟩ = some (.bool s0b) ∧ w'.cell? ⟨w9.heap.size, 4, none⟩ = some (.slice ax0b z0b.length dx0b) ∧ w'.cell? ⟨w9.heap.size, 5, none⟩ = some (.int .i64 y0b))) (by kernel_rfl) ?_ (fun hH => ?_)
  ·exact ⟨A0_0, A0_1, A0_2, A0_3, A0_4, A0_5, cx0_0, cx0_1, cx0_2, cx0_3, cx0_4, cx0_5⟩
  refine wpAnyH_take (i := 0) (v := .agg #[.bool s0, .slice ax0 z0.length dx0, .int .i64 y0, .bool s0b, .slice ax0b z0b.length dx0b, .int .i64 y0b]) rfl (by kernel_rfl) (by kernel_rfl) (by kernel_rfl) (fun _ _ _ h => h) (Or.inl ⟨by rfl, ?_⟩) hH ?_
  ·intro wq hSw
   try dsimp only at hSw
   go_simp
  try simp only [Act.put, zq1, zq2, zq3, zq4, zq5, zq6]
  refine wpAnyH_take (i := 1) (v := .agg #[.bool s0, .slice a0 z0.length c0, .int .i64 y0, .bool s0b, .slice a0b z0b.length c0b, .int .i64 y0b]) rfl (by kernel_rfl) (by kernel_rfl) (by kernel_rfl) (fun _ _ _ h => h) (Or.inl ⟨by rfl, ?_⟩) hH ?_
  ·intro wq hSw
   try dsimp only at hSw
   go_simp
  try simp only [Act.put, zq1, zq2, zq3, zq4, zq5, zq6]
  refine wpAnyH_ready (rs := [2]) (by kernel_rfl) (by simp) ?_
  refine AllReadyH.cons rfl (fun KK hK => ?_) AllReadyH.nil
  simp only [zq1, zq2, zq3]
  rw [if_pos (by rfl)]
  refine wps1 6 (.tmp 46) _ rfl in_toV (.agg #[.bool s0, .slice a0 z0.length c0, .int .i64 y0, .bool s0b, .slice a0b z0b.length c0b, .int .i64 y0b]) rfl (toIv_any (s0) (y0) (s0b) (y0b) _ hn0 hn0b r0 r0b) ?_
  rintro e w20 ⟨v80, v80b, mm80, rfl, r80, r80b, hma80, hmb80, k20⟩
  refine ⟨_, rfl, ?_⟩
  replace r0 := r0.kp k20
  replace r0b := r0b.kp k20
  replace rw0 := rw0.kp k20
  replace rw0b := rw0b.kp k20
  replace rx0 := rx0.kp k20
  replace rx0b := rx0b.kp k20
  replace rg0 := rg0.kp k20
  replace rg0b := rg0b.kp k20
  replace A0_0 := k20.cell0 A0_0
  replace A0_1 := k20.cell0 A0_1
  replace A0_2 := k20.cell0 A0_2
  replace A0_3 := k20.cell0 A0_3
  replace A0_4 := k20.cell0 A0_4
  replace A0_5 := k20.cell0 A0_5
  replace cw0_0 := k20.cell0 cw0_0
  replace cw0_1 := k20.cell0 cw0_1
  replace cw0_2 := k20.cell0 cw0_2
  replace cw0_3 := k20.cell0 cw0_3
  replace cw0_4 := k20.cell0 cw0_4
  replace cw0_5 := k20.cell0 cw0_5
  replace cx0_0 := k20.cell0 cx0_0
  replace cx0_1 := k20.cell0 cx0_1
  replace cx0_2 := k20.cell0 cx0_2
  replace cx0_3 := k20.cell0 cx0_3
  replace cx0_4 := k20.cell0 cx0_4
  replace cx0_5 := k20.cell0 cx0_5
  replace cg0_0 := k20.cell0 cg0_0
  replace cg0_1 := k20.cell0 cg0_1
  replace cg0_2 := k20.cell0 cg0_2
  replace cg0_3 := k20.cell0 cg0_3
  replace cg0_4 := k20.cell0 cg0_4
  replace cg0_5 := k20.cell0 cg0_5
  replace K := hide ((unhide K).trans k20)
  have z21 := k20.size
  clear k20
  clear hH
  refine hK.out _ _ ?_ (fun hH => ?_)
  ·exact ⟨A0_0, A0_1, A0_2, A0_3, A0_4, A0_5, cx0_0, cx0_1, cx0_2, cx0_3, cx0_4, cx0_5⟩
  clear hK KK
  try simp only [Act.put, zq1, zq2, zq3, zq4, zq5, zq6]
  refine wpAnyH_ready (rs := [3]) (by kernel_rfl) (by simp) ?_
  refine AllReadyH.cons rfl (fun KK hK => ?_) AllReadyH.nil
  simp only [zq1, zq2, zq3]
  rw [if_pos (by rfl)]
  refine wps2 8 (.tmp 45) (.tmp 47) _ rfl in_eqV (.agg #[.bool s0, .slice ax0 z0.length dx0, .int .i64 y0, .bool s0b, .slice ax0b z0b.length dx0b, .int .i64 y0b]) (.agg #[.bool s0, v80, .int .i64 y0, .bool s0b, v80b, .int .i64 y0b]) rfl rfl (eqIv_same (s0) (y0) (s0b) (y0b) _ rx0 rx0b r80 r80b) ?_
  rintro e w22 ⟨rfl, k22⟩
  refine ⟨_, rfl, ?_⟩
  replace r0 := r0.kp k22
  replace r0b := r0b.kp k22
  replace rw0 := rw0.kp k22
  replace rw0b := rw0b.kp k22
  replace rx0 := rx0.kp k22
  replace rx0b := rx0b.kp k22
  replace rg0 := rg0.kp k22
  replace rg0b := rg0b.kp k22
  replace r80 := r80.kp k22
  replace r80b := r80b.kp k22
  replace A0_0 := k22.cell0 A0_0
  replace A0_1 := k22.cell0 A0_1
  replace A0_2 := k22.cell0 A0_2
  replace A0_3 := k22.cell0 A0_3
  replace A0_4 := k22.cell0 A0_4
  replace A0_5 := k22.cell0 A0_5
  replace cw0_0 := k22.cell0 cw0_0
  replace cw0_1 := k22.cell0 cw0_1
  replace cw0_2 := k22.cell0 cw0_2
  replace cw0_3 := k22.cell0 cw0_3
  replace cw0_4 := k22.cell0 cw0_4
  replace cw0_5 := k22.cell0 cw0_5
  replace cx0_0 := k22.cell0 cx0_0
  replace cx0_1 := k22.cell0 cx0_1
  replace cx0_2 := k22.cell0 cx0_2
  replace cx0_3 := k22.cell0 cx0_3
  replace cx0_4 := k22.cell0 cx0_4
  replace cx0_5 := k22.cell0 cx0_5
  replace cg0_0 := k22.cell0 cg0_0
  replace cg0_1 := k22.cell0 cg0_1
  replace cg0_2 := k22.cell0 cg0_2
  replace cg0_3 := k22.cell0 cg0_3
  replace cg0_4 := k22.cell0 cg0_4
  replace cg0_5 := k22.cell0 cg0_5
  replace K := hide ((unhide K).trans k22)
  have z23 := k22.size
  clear k22
  clear hH
  refine hK.out _ _ ?_ (fun hH => ?_)
  ·exact ⟨A0_0, A0_1, A0_2, A0_3, A0_4, A0_5, cx0_0, cx0_1, cx0_2, cx0_3, cx0_4, cx0_5⟩
  clear hK KK
  try simp only [Act.put, zq1, zq2, zq3, zq4, zq5, zq6]
  refine wpAnyH_take (i := 4) (v := .bool false) rfl (by kernel_rfl) (by kernel_rfl) (by kernel_rfl) (fun _ _ _ h => h) (Or.inl ⟨by rfl, ?_⟩) hH ?_
  ·intro wq hSw
   try dsimp only at hSw
   go_simp
  try simp only [Act.put, zq1, zq2, zq3, zq4, zq5, zq6]
  refine wpAnyH_done (by kernel_rfl) ?_ _
  clear hH
  clear r80 r80b
  have S0' := unhide S0
  go_wp2_with fail
  refine (markIv_wide (s0) (y0) (s0b) (y0b) _ (1) (by omega) (by omega) (by omega) (by omega) hmax0 hmbx0 (by omega) rx0 rx0b).mono ?_
  rintro e w24 ⟨rfl, -, -, k24⟩
  replace r0 := r0.kept k24 (by omega)
  replace r0b := r0b.kept k24 (by omega)
  replace rw0 := rw0.kept k24 (by omega)
  replace rw0b := rw0b.kept k24 (by omega)
  replace rg0 := rg0.kept k24 (by omega)
  replace rg0b := rg0b.kept k24 (by omega)
  replace A0_0 := k24.cellOut (by dsimp only; omega) A0_0
  replace A0_1 := k24.cellOut (by dsimp only; omega) A0_1
  replace A0_2 := k24.cellOut (by dsimp only; omega) A0_2
  replace A0_3 := k24.cellOut (by dsimp only; omega) A0_3
  replace A0_4 := k24.cellOut (by dsimp only; omega) A0_4
  replace A0_5 := k24.cellOut (by dsimp only; omega) A0_5
  replace cw0_0 := k24.cellOut (by dsimp only; omega) cw0_0
  replace cw0_1 := k24.cellOut (by dsimp only; omega) cw0_1
  replace cw0_2 := k24.cellOut (by dsimp only; omega) cw0_2
  replace cw0_3 := k24.cellOut (by dsimp only; omega) cw0_3
  replace cw0_4 := k24.cellOut (by dsimp only; omega) cw0_4
  replace cw0_5 := k24.cellOut (by dsimp only; omega) cw0_5
  replace cx0_0 := k24.cellOut (by dsimp only; omega) cx0_0
  replace cx0_1 := k24.cellOut (by dsimp only; omega) cx0_1
  replace cx0_2 := k24.cellOut (by dsimp only; omega) cx0_2
  replace cx0_3 := k24.cellOut (by dsimp only; omega) cx0_3
  replace cx0_4 := k24.cellOut (by dsimp only; omega) cx0_4
  replace cx0_5 := k24.cellOut (by dsimp only; omega) cx0_5
  replace cg0_0 := k24.cellOut (by dsimp only; omega) cg0_0
  replace cg0_1 := k24.cellOut (by dsimp only; omega) cg0_1
  replace cg0_2 := k24.cellOut (by dsimp only; omega) cg0_2
  replace cg0_3 := k24.cellOut (by dsimp only; omega) cg0_3
  replace cg0_4 := k24.cellOut (by dsimp only; omega) cg0_4
  replace cg0_5 := k24.cellOut (by dsimp only; omega) cg0_5
  replace K := hide ((unhide K).wide k24 (by omega))
  have z24 := k24.size
  clear k24 rx0 rx0b
  have nk : ¬ (1 + ((z0.length : Int) + (z0b.length : Int))) < 0 := by omega
  go_wp2_with fail
  refine (eqIv_same (G0) (H0) (G0b) (H0b) _ rg0 rg0b rw0 rw0b).mono ?_
  rintro e w25 ⟨rfl, k25⟩
  replace r0 := r0.kp k25
  replace r0b := r0b.kp k25
  replace rw0 := rw0.kp k25
  replace rw0b := rw0b.kp k25
  replace rg0 := rg0.kp k25
  replace rg0b := rg0b.kp k25
  replace A0_0 := k25.cell0 A0_0
  replace A0_1 := k25.cell0 A0_1
  replace A0_2 := k25.cell0 A0_2
  replace A0_3 := k25.cell0 A0_3
  replace A0_4 := k25.cell0 A0_4
  replace A0_5 := k25.cell0 A0_5
  replace cw0_0 := k25.cell0 cw0_0
  replace cw0_1 := k25.cell0 cw0_1
  replace cw0_2 := k25.cell0 cw0_2
  replace cw0_3 := k25.cell0 cw0_3
  replace cw0_4 := k25.cell0 cw0_4
  replace cw0_5 := k25.cell0 cw0_5
  replace cx0_0 := k25.cell0 cx0_0
  replace cx0_1 := k25.cell0 cx0_1
  replace cx0_2 := k25.cell0 cx0_2
  replace cx0_3 := k25.cell0 cx0_3
  replace cx0_4 := k25.cell0 cx0_4
  replace cx0_5 := k25.cell0 cx0_5
  replace cg0_0 := k25.cell0 cg0_0
  replace cg0_1 := k25.cell0 cg0_1
  replace cg0_2 := k25.cell0 cg0_2
  replace cg0_3 := k25.cell0 cg0_3
  replace cg0_4 := k25.cell0 cg0_4
  replace cg0_5 := k25.cell0 cg0_5
  replace K := hide ((unhide K).trans k25)
  have z26 := k25.size
  clear k25
  go_wp2_with fail
  refine (markIv_wide (G0) (H0) (G0b) (H0b) _ (1) (by omega) (by omega) (by omega) (by omega) hmag0 hmbg0 (by omega) rg0 rg0b).mono ?_
  rintro e w27 ⟨rfl, rm0, rm0b, k27⟩
  replace r0 := r0.kept k27 (by omega)
  replace r0b := r0b.kept k27 (by omega)
  replace rw0 := rw0.kept k27 (by omega)
  replace rw0b := rw0b.kept k27 (by omega)
  replace A0_0 := k27.cellOut (by dsimp only; omega) A0_0
  replace A0_1 := k27.cellOut (by dsimp only; omega) A0_1
  replace A0_2 := k27.cellOut (by dsimp only; omega) A0_2
  replace A0_3 := k27.cellOut (by dsimp only; omega) A0_3
  replace A0_4 := k27.cellOut (by dsimp only; omega) A0_4
  replace A0_5 := k27.cellOut (by dsimp only; omega) A0_5
  replace cw0_0 := k27.cellOut (by dsimp only; omega) cw0_0
  replace cw0_1 := k27.cellOut (by dsimp only; omega) cw0_1
  replace cw0_2 := k27.cellOut (by dsimp only; omega) cw0_2
  replace cw0_3 := k27.cellOut (by dsimp only; omega) cw0_3
  replace cw0_4 := k27.cellOut (by dsimp only; omega) cw0_4
  replace cw0_5 := k27.cellOut (by dsimp only; omega) cw0_5
  replace cx0_0 := k27.cellOut (by dsimp only; omega) cx0_0
  replace cx0_1 := k27.cellOut (by dsimp only; omega) cx0_1
  replace cx0_2 := k27.cellOut (by dsimp only; omega) cx0_2
  replace cx0_3 := k27.cellOut (by dsimp only; omega) cx0_3
  replace cx0_4 := k27.cellOut (by dsimp only; omega) cx0_4
  replace cx0_5 := k27.cellOut (by dsimp only; omega) cx0_5
  replace cg0_0 := k27.cellOut (by dsimp only; omega) cg0_0
  replace cg0_1 := k27.cellOut (by dsimp only; omega) cg0_1
  replace cg0_2 := k27.cellOut (by dsimp only; omega) cg0_2
  replace cg0_3 := k27.cellOut (by dsimp only; omega) cg0_3
  replace cg0_4 := k27.cellOut (by dsimp only; omega) cg0_4
  replace cg0_5 := k27.cellOut (by dsimp only; omega) cg0_5
  replace K := hide ((unhide K).wide k27 (by omega))
  have z27 := k27.size
  clear k27 rg0 rg0b
  go_wp2_with fail
  refine (heldIv_any (G0) (H0) (G0b) (H0b) _ (1) (by omega) (by omega) (by omega) hq0 hq0b rm0 rm0b).mono ?_
  rintro e w28 ⟨rfl, k28⟩
  replace r0 := r0.kp k28
  replace r0b := r0b.kp k28
  replace rw0 := rw0.kp k28
  replace rw0b := rw0b.kp k28
  replace rm0 := rm0.kp k28
  replace rm0b := rm0b.kp k28
  replace A0_0 := k28.cell0 A0_0
  replace A0_1 := k28.cell0 A0_1
  replace A0_2 := k28.cell0 A0_2
  replace A0_3 := k28.cell0 A0_3
  replace A0_4 := k28.cell0 A0_4
  replace A0_5 := k28.cell0 A0_5
  replace cw0_0 := k28.cell0 cw0_0
  replace cw0_1 := k28.cell0 cw0_1
  replace cw0_2 := k28.cell0 cw0_2
  replace cw0_3 := k28.cell0 cw0_3
  replace cw0_4 := k28.cell0 cw0_4
  replace cw0_5 := k28.cell0 cw0_5
  replace cx0_0 := k28.cell0 cx0_0
  replace cx0_1 := k28.cell0 cx0_1
  replace cx0_2 := k28.cell0 cx0_2
  replace cx0_3 := k28.cell0 cx0_3
  replace cx0_4 := k28.cell0 cx0_4
  replace cx0_5 := k28.cell0 cx0_5
  replace cg0_0 := k28.cell0 cg0_0
  replace cg0_1 := k28.cell0 cg0_1
  replace cg0_2 := k28.cell0 cg0_2
  replace cg0_3 := k28.cell0 cg0_3
  replace cg0_4 := k28.cell0 cg0_4
  replace cg0_5 := k28.cell0 cg0_5
  replace K := hide ((unhide K).trans k28)
  have z29 := k28.size
  clear k28
  have nq029 : ¬ (1 + ((L0.length : Int) + (L0b.length : Int))) < 0 := by omega
  go_wp2_with fail
  refine (toIv_any (s0) (y0) (s0b) (y0b) _ hn0 hn0b r0 r0b).mono ?_
  rintro e w30 ⟨vyh0, vyh0b, mmyh0, rfl, ryh0, ryh0b, hmayh0, hmbyh0, k30⟩
  replace r0 := r0.kp k30
  replace r0b := r0b.kp k30
  replace rw0 := rw0.kp k30
  replace rw0b := rw0b.kp k30
  replace rm0 := rm0.kp k30
  replace rm0b := rm0b.kp k30
  replace A0_0 := k30.cell0 A0_0
  replace A0_1 := k30.cell0 A0_1
  replace A0_2 := k30.cell0 A0_2
  replace A0_3 := k30.cell0 A0_3
  replace A0_4 := k30.cell0 A0_4
  replace A0_5 := k30.cell0 A0_5
  replace cw0_0 := k30.cell0 cw0_0
  replace cw0_1 := k30.cell0 cw0_1
  replace cw0_2 := k30.cell0 cw0_2
  replace cw0_3 := k30.cell0 cw0_3
  replace cw0_4 := k30.cell0 cw0_4
  replace cw0_5 := k30.cell0 cw0_5
  replace cx0_0 := k30.cell0 cx0_0
  replace cx0_1 := k30.cell0 cx0_1
  replace cx0_2 := k30.cell0 cx0_2
  replace cx0_3 := k30.cell0 cx0_3
  replace cx0_4 := k30.cell0 cx0_4
  replace cx0_5 := k30.cell0 cx0_5
  replace cg0_0 := k30.cell0 cg0_0
  replace cg0_1 := k30.cell0 cg0_1
  replace cg0_2 := k30.cell0 cg0_2
  replace cg0_3 := k30.cell0 cg0_3
  replace cg0_4 := k30.cell0 cg0_4
  replace cg0_5 := k30.cell0 cg0_5
  replace K := hide ((unhide K).trans k30)
  have z31 := k30.size
  clear k30
  go_wp2_with fail
  have mk := (ivroot_impl s0 y0 gy0.1 gy0.2 s0b y0b gy0b.1 gy0b.2 w30 ryh0 ryh0b p1 (T.kept (unhide K))).mono (fun e w' h => IvAns.weak h)
  unfold IvAnsS at mk
  simp only [unhide EB1, unhide EL0, unhide EH0, unhide EG0, unhide EL0b, unhide EH0b, unhide EG0b] at mk
  refine (mk).mono ?_
  rintro e w32 ⟨vh0, vh0b, rfl, rh0, rh0b, k32⟩
  replace r0 := r0.kp k32
  replace r0b := r0b.kp k32
  replace rw0 := rw0.kp k32
  replace rw0b := rw0b.kp k32
  replace rm0 := rm0.kp k32
  replace rm0b := rm0b.kp k32
  replace ryh0 := ryh0.kp k32
  replace ryh0b := ryh0b.kp k32
  replace A0_0 := k32.cell0 A0_0
  replace A0_1 := k32.cell0 A0_1
  replace A0_2 := k32.cell0 A0_2
  replace A0_3 := k32.cell0 A0_3
  replace A0_4 := k32.cell0 A0_4
  replace A0_5 := k32.cell0 A0_5
  replace cw0_0 := k32.cell0 cw0_0
  replace cw0_1 := k32.cell0 cw0_1
  replace cw0_2 := k32.cell0 cw0_2
  replace cw0_3 := k32.cell0 cw0_3
  replace cw0_4 := k32.cell0 cw0_4
  replace cw0_5 := k32.cell0 cw0_5
  replace cx0_0 := k32.cell0 cx0_0
  replace cx0_1 := k32.cell0 cx0_1
  replace cx0_2 := k32.cell0 cx0_2
  replace cx0_3 := k32.cell0 cx0_3
  replace cx0_4 := k32.cell0 cx0_4
  replace cx0_5 := k32.cell0 cx0_5
  replace cg0_0 := k32.cell0 cg0_0
  replace cg0_1 := k32.cell0 cg0_1
  replace cg0_2 := k32.cell0 cg0_2
  replace cg0_3 := k32.cell0 cg0_3
  replace cg0_4 := k32.cell0 cg0_4
  replace cg0_5 := k32.cell0 cg0_5
  replace K := hide ((unhide K).trans k32)
  have z33 := k32.size
  clear k32
  clear mk
  clear ryh0 ryh0b
  obtain ⟨ah0, dh0, hv⟩ := Row.form' rh0
  subst hv
  obtain ⟨ah0b, dh0b, hv⟩ := Row.form' rh0b
  subst hv
  have kn := (Kept.refl 0 0 w32).alloc (.cells #[.bool G0, .slice ah0 L0.length dh0, .int .i64 H0, .bool G0b, .slice ah0b L0b.length dh0b, .int .i64 H0b] 38)
  have ch0_0 : (w32.alloc (.cells #[.bool G0, .slice ah0 L0.length dh0, .int .i64 H0, .bool G0b, .slice ah0b L0b.length dh0b, .int .i64 H0b] 38)).cell? ⟨w32.heap.size, 0, none⟩ = some (.bool G0) := new_cell2 _ _ _ _ _ _ rfl rfl
  have ch0_1 : (w32.alloc (.cells #[.bool G0, .slice ah0 L0.length dh0, .int .i64 H0, .bool G0b, .slice ah0b L0b.length dh0b, .int .i64 H0b] 38)).cell? ⟨w32.heap.size, 1, none⟩ = some (.slice ah0 L0.length dh0) := new_cell2 _ _ _ _ _ _ rfl rfl
  have ch0_2 : (w32.alloc (.cells #[.bool G0, .slice ah0 L0.length dh0, .int .i64 H0, .bool G0b, .slice ah0b L0b.length dh0b, .int .i64 H0b] 38)).cell? ⟨w32.heap.size, 2, none⟩ = some (.int .i64 H0) := new_cell2 _ _ _ _ _ _ rfl rfl
  have ch0_3 : (w32.alloc (.cells #[.bool G0, .slice ah0 L0.length dh0, .int .i64 H0, .bool G0b, .slice ah0b L0b.length dh0b, .int .i64 H0b] 38)).cell? ⟨w32.heap.size, 3, none⟩ = some (.bool G0b) := new_cell2 _ _ _ _ _ _ rfl rfl
  have ch0_4 : (w32.alloc (.cells #[.bool G0, .slice ah0 L0.length dh0, .int .i64 H0, .bool G0b, .slice ah0b L0b.length dh0b, .int .i64 H0b] 38)).cell? ⟨w32.heap.size, 4, none⟩ = some (.slice ah0b L0b.length dh0b) := new_cell2 _ _ _ _ _ _ rfl rfl
  have ch0_5 : (w32.alloc (.cells #[.bool G0, .slice ah0 L0.length dh0, .int .i64 H0, .bool G0b, .slice ah0b L0b.length dh0b, .int .i64 H0b] 38)).cell? ⟨w32.heap.size, 5, none⟩ = some (.int .i64 H0b) := new_cell2 _ _ _ _ _ _ rfl rfl
  have t34 : w32.heap.size + 1 ≤ (w32.alloc (.cells #[.bool G0, .slice ah0 L0.length dh0, .int .i64 H0, .bool G0b, .slice ah0b L0b.length dh0b, .int .i64 H0b] 38)).heap.size := by simp
  replace r0 := r0.kp kn
  replace r0b := r0b.kp kn
  replace rw0 := rw0.kp kn
  replace rw0b := rw0b.kp kn
  replace rm0 := rm0.kp kn
  replace rm0b := rm0b.kp kn
  replace rh0 := rh0.kp kn
  replace rh0b := rh0b.kp kn
  replace A0_0 := kn.cell0 A0_0
  replace A0_1 := kn.cell0 A0_1
  replace A0_2 := kn.cell0 A0_2
  replace A0_3 := kn.cell0 A0_3
  replace A0_4 := kn.cell0 A0_4
  replace A0_5 := kn.cell0 A0_5
  replace cw0_0 := kn.cell0 cw0_0
  replace cw0_1 := kn.cell0 cw0_1
  replace cw0_2 := kn.cell0 cw0_2
  replace cw0_3 := kn.cell0 cw0_3
  replace cw0_4 := kn.cell0 cw0_4
  replace cw0_5 := kn.cell0 cw0_5
  replace cx0_0 := kn.cell0 cx0_0
  replace cx0_1 := kn.cell0 cx0_1
  replace cx0_2 := kn.cell0 cx0_2
  replace cx0_3 := kn.cell0 cx0_3
  replace cx0_4 := kn.cell0 cx0_4
  replace cx0_5 := kn.cell0 cx0_5
  replace cg0_0 := kn.cell0 cg0_0
  replace cg0_1 := kn.cell0 cg0_1
  replace cg0_2 := kn.cell0 cg0_2
  replace cg0_3 := kn.cell0 cg0_3
  replace cg0_4 := kn.cell0 cg0_4
  replace cg0_5 := kn.cell0 cg0_5
  replace K := hide ((unhide K).trans kn)
  have z35 := kn.size
  clear kn
  go_wp2_with fail
  generalize w32.alloc (.cells #[.bool G0, .slice ah0 L0.length dh0, .int .i64 H0, .bool G0b, .slice ah0b L0b.length dh0b, .int .i64 H0b] 38) = wm34 at *
  refine (eqIv_same (G0) (H0) (G0b) (H0b) _ rh0 rh0b rw0 rw0b).mono ?_
  rintro e w36 ⟨rfl, k36⟩
  replace r0 := r0.kp k36
  replace r0b := r0b.kp k36
  replace rw0 := rw0.kp k36
  replace rw0b := rw0b.kp k36
  replace rm0 := rm0.kp k36
  replace rm0b := rm0b.kp k36
  replace rh0 := rh0.kp k36
  replace rh0b := rh0b.kp k36
  replace A0_0 := k36.cell0 A0_0
  replace A0_1 := k36.cell0 A0_1
  replace A0_2 := k36.cell0 A0_2
  replace A0_3 := k36.cell0 A0_3
  replace A0_4 := k36.cell0 A0_4
  replace A0_5 := k36.cell0 A0_5
  replace cw0_0 := k36.cell0 cw0_0
  replace cw0_1 := k36.cell0 cw0_1
  replace cw0_2 := k36.cell0 cw0_2
  replace cw0_3 := k36.cell0 cw0_3
  replace cw0_4 := k36.cell0 cw0_4
  replace cw0_5 := k36.cell0 cw0_5
  replace cx0_0 := k36.cell0 cx0_0
  replace cx0_1 := k36.cell0 cx0_1
  replace cx0_2 := k36.cell0 cx0_2
  replace cx0_3 := k36.cell0 cx0_3
  replace cx0_4 := k36.cell0 cx0_4
  replace cx0_5 := k36.cell0 cx0_5
  replace cg0_0 := k36.cell0 cg0_0
  replace cg0_1 := k36.cell0 cg0_1
  replace cg0_2 := k36.cell0 cg0_2
  replace cg0_3 := k36.cell0 cg0_3
  replace cg0_4 := k36.cell0 cg0_4
  replace cg0_5 := k36.cell0 cg0_5
  replace ch0_0 := k36.cell0 ch0_0
  replace ch0_1 := k36.cell0 ch0_1
  replace ch0_2 := k36.cell0 ch0_2
  replace ch0_3 := k36.cell0 ch0_3
  replace ch0_4 := k36.cell0 ch0_4
  replace ch0_5 := k36.cell0 ch0_5
  replace K := hide ((unhide K).trans k36)
  have z37 := k36.size
  clear k36
  go_wp2_with fail
  refine (heldIv_any (G0) (H0) (G0b) (H0b) _ (1) (by omega) (by omega) (by omega) hq0 hq0b rm0 rm0b).mono ?_
  rintro e w38 ⟨rfl, k38⟩
  replace r0 := r0.kp k38
  replace r0b := r0b.kp k38
  replace rw0 := rw0.kp k38
  replace rw0b := rw0b.kp k38
  replace rm0 := rm0.kp k38
  replace rm0b := rm0b.kp k38
  replace rh0 := rh0.kp k38
  replace rh0b := rh0b.kp k38
  replace A0_0 := k38.cell0 A0_0
  replace A0_1 := k38.cell0 A0_1
  replace A0_2 := k38.cell0 A0_2
  replace A0_3 := k38.cell0 A0_3
  replace A0_4 := k38.cell0 A0_4
  replace A0_5 := k38.cell0 A0_5
  replace cw0_0 := k38.cell0 cw0_0
  replace cw0_1 := k38.cell0 cw0_1
  replace cw0_2 := k38.cell0 cw0_2
  replace cw0_3 := k38.cell0 cw0_3
  replace cw0_4 := k38.cell0 cw0_4
  replace cw0_5 := k38.cell0 cw0_5
  replace cx0_0 := k38.cell0 cx0_0
  replace cx0_1 := k38.cell0 cx0_1
  replace cx0_2 := k38.cell0 cx0_2
  replace cx0_3 := k38.cell0 cx0_3
  replace cx0_4 := k38.cell0 cx0_4
  replace cx0_5 := k38.cell0 cx0_5
  replace cg0_0 := k38.cell0 cg0_0
  replace cg0_1 := k38.cell0 cg0_1
  replace cg0_2 := k38.cell0 cg0_2
  replace cg0_3 := k38.cell0 cg0_3
  replace cg0_4 := k38.cell0 cg0_4
  replace cg0_5 := k38.cell0 cg0_5
  replace ch0_0 := k38.cell0 ch0_0
  replace ch0_1 := k38.cell0 ch0_1
  replace ch0_2 := k38.cell0 ch0_2
  replace ch0_3 := k38.cell0 ch0_3
  replace ch0_4 := k38.cell0 ch0_4
  replace ch0_5 := k38.cell0 ch0_5
  replace K := hide ((unhide K).trans k38)
  have z39 := k38.size
  clear k38
  have nq039 : ¬ (1 + ((L0.length : Int) + (L0b.length : Int))) < 0 := by omega
  go_wp2_with fail
  go_ret
  exact ⟨rfl, (unhide K).toBelow⟩

end Go.Proofs.YtadbdchjhglldaaGreatDoor

