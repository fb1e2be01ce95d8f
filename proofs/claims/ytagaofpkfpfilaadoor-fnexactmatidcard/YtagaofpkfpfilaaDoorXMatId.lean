/-
  The walk of the law FnExactMatId: it returns true at every argument.
-/
import Derived.Test.YtagaofpkfpfilaaDoorMi3
import Derived.Test.YtagaofpkfpfilaaDoorDys4
import Derived.Test.YtagaofpkfpfilaaDoorBJ
import Derived.Test.YtagaofpkfpfilaaDoorBC
import Derived.Deep.DeepCutAuto
namespace Go.Proofs.YtagaofpkfpfilaaDoor
open Go.RowKit
set_option linter.unusedVariables false
set_option maxRecDepth 8000
set_option linter.unusedSimpArgs false

theorem wf_MatId {n : Int} (h : (Lit.int .i64 n).wf = true) : n ≤ 9223372036854775807 ∧ -9223372036854775808 ≤ n := by
  have e : (Lit.int .i64 n).wf = (decide (IntKind.i64.min ≤ n) && decide (n ≤ IntKind.i64.max)) := rfl
  rw [e, show IntKind.i64.min = -9223372036854775808 by decide, show IntKind.i64.max = 9223372036854775807 by decide] at h
  simp at h
  omega

set_option maxHeartbeats 16000000 in
theorem law_MatId   (p0 : Int) (f0 : (Lit.int .i64 p0).wf = true) (w : World) (T : TabB w) :
    Calls Tryd.prog 5 #[.int .i64 p0] w fun e w' => e = .returned (.bool true) ∧ Below w.heap.size w w' := by
  have g0 : p0 ≤ 9223372036854775807 ∧ -9223372036854775808 ≤ p0 := wf_MatId f0
  clear f0
  obtain ⟨B1, hB1⟩ : ∃ B, idB p0 = B := ⟨_, rfl⟩
  obtain ⟨L0, hL0⟩ : ∃ L, idL p0 = L := ⟨_, rfl⟩
  obtain ⟨H0, hH0⟩ : ∃ H, idN p0 = H := ⟨_, rfl⟩
  have hs0 : szT L0 ≤ 2000 := by rw [← hL0]; exact id_sz _
  have sl'0 := szT_len L0
  have kg'0 := kAt_ge L0 1 L0.length (by omega)
  have kh'0 := kAt_le L0 1
  have s0 : w.heap.size = w.heap.size := rfl
  have K := hide (Kept.refl 0 0 w)
  have S0 := hide s0
  clear s0
  have EB1 := hide hB1
  have EL0 := hide hL0
  have EH0 := hide hH0
  clear hB1 hL0 hH0
  go_enter Tryd.func5, Tryd.ntmps5
  skip
  go_wp2_with fail
  have mk := matId_spec p0 g0.1 g0.2 w
  simp only [unhide EB1, unhide EL0, unhide EH0] at mk
  refine (mk).mono ?_
  rintro e w1 ⟨vw0, rfl, rw0, k1⟩
  replace K := hide ((unhide K).trans k1)
  have z2 := k1.size
  clear k1
  clear mk
  obtain ⟨aw0, dw0, hv⟩ := rw0.form'
  subst hv
  have kn := (Kept.refl 0 0 w1).alloc (.cells #[.int .i64 H0, .slice aw0 L0.length dw0] 37)
  have cw0_0 : (w1.alloc (.cells #[.int .i64 H0, .slice aw0 L0.length dw0] 37)).cell? ⟨w1.heap.size, 0, none⟩ = some (.int .i64 H0) := new_cell2 _ _ _ _ _ _ rfl rfl
  have cw0_1 : (w1.alloc (.cells #[.int .i64 H0, .slice aw0 L0.length dw0] 37)).cell? ⟨w1.heap.size, 1, none⟩ = some (.slice aw0 L0.length dw0) := new_cell2 _ _ _ _ _ _ rfl rfl
  have t3 : w1.heap.size + 1 ≤ (w1.alloc (.cells #[.int .i64 H0, .slice aw0 L0.length dw0] 37)).heap.size := by simp
  replace rw0 := rw0.kept kn (.inr (.inr (Nat.le_refl 0)))
  replace K := hide ((unhide K).trans kn)
  have z4 := kn.size
  clear kn
  go_wp2_with fail
  generalize w1.alloc (.cells #[.int .i64 H0, .slice aw0 L0.length dw0] 37) = wm3 at *
  have mk := matId_impl p0 g0.1 g0.2 wm3 (T.kept (unhide K))
  simp only [unhide EB1, unhide EL0, unhide EH0] at mk
  refine (mk).mono ?_
  rintro e w5 ⟨vg0, rfl, rg0, k5⟩
  replace rw0 := rw0.kept k5 (.inr (.inr (Nat.le_refl 0)))
  replace cw0_0 := k5.cell0 cw0_0
  replace cw0_1 := k5.cell0 cw0_1
  replace K := hide ((unhide K).trans k5)
  have z6 := k5.size
  clear k5
  clear mk
  obtain ⟨ag0, dg0, hv⟩ := rg0.form'
  subst hv
  have kn := (Kept.refl 0 0 w5).alloc (.cells #[.int .i64 H0, .slice ag0 L0.length dg0] 37)
  have cg0_0 : (w5.alloc (.cells #[.int .i64 H0, .slice ag0 L0.length dg0] 37)).cell? ⟨w5.heap.size, 0, none⟩ = some (.int .i64 H0) := new_cell2 _ _ _ _ _ _ rfl rfl
  have cg0_1 : (w5.alloc (.cells #[.int .i64 H0, .slice ag0 L0.length dg0] 37)).cell? ⟨w5.heap.size, 1, none⟩ = some (.slice ag0 L0.length dg0) := new_cell2 _ _ _ _ _ _ rfl rfl
  have t7 : w5.heap.size + 1 ≤ (w5.alloc (.cells #[.int .i64 H0, .slice ag0 L0.length dg0] 37)).heap.size := by simp
  replace rw0 := rw0.kept kn (.inr (.inr (Nat.le_refl 0)))
  replace rg0 := rg0.kept kn (.inr (.inr (Nat.le_refl 0)))
  replace cw0_0 := kn.cell0 cw0_0
  replace cw0_1 := kn.cell0 cw0_1
  replace K := hide ((unhide K).trans kn)
  have z8 := kn.size
  clear kn
  go_wp2_with fail
  generalize w5.alloc (.cells #[.int .i64 H0, .slice ag0 L0.length dg0] 37) = wm7 at *
  refine (eqMat_same (H0) _ rg0.read rw0.read).mono ?_
  rintro e w9 ⟨rfl, k9⟩
  replace rw0 := rw0.kept k9 (.inr (.inr (Nat.le_refl 0)))
  replace rg0 := rg0.kept k9 (.inr (.inr (Nat.le_refl 0)))
  replace cw0_0 := k9.cell0 cw0_0
  replace cw0_1 := k9.cell0 cw0_1
  replace cg0_0 := k9.cell0 cg0_0
  replace cg0_1 := k9.cell0 cg0_1
  replace K := hide ((unhide K).trans k9)
  have z10 := k9.size
  clear k9
  have S0' := unhide S0
  go_wp2_with fail
  refine (markMat_wide (H0) _ (1) (by omega) (by omega) (by omega) rg0).mono ?_
  rintro e w11 ⟨rfl, rm0, k11⟩
  replace rw0 := rw0.kept k11 (by omega)
  replace cw0_0 := k11.cellOut (by dsimp only; omega) cw0_0
  replace cw0_1 := k11.cellOut (by dsimp only; omega) cw0_1
  replace cg0_0 := k11.cellOut (by dsimp only; omega) cg0_0
  replace cg0_1 := k11.cellOut (by dsimp only; omega) cg0_1
  replace K := hide ((unhide K).wide k11 (by omega))
  have z11 := k11.size
  clear k11 rg0
  go_wp2_with fail
  refine (heldMat_any (H0) _ (1) (by omega) (by omega) (by omega) rm0.read).mono ?_
  rintro e w12 ⟨rfl, k12⟩
  replace rw0 := rw0.kept k12 (.inr (.inr (Nat.le_refl 0)))
  replace rm0 := rm0.kept k12 (.inr (.inr (Nat.le_refl 0)))
  replace cw0_0 := k12.cell0 cw0_0
  replace cw0_1 := k12.cell0 cw0_1
  replace cg0_0 := k12.cell0 cg0_0
  replace cg0_1 := k12.cell0 cg0_1
  replace K := hide ((unhide K).trans k12)
  have z13 := k12.size
  clear k12
  have nq013 : ¬ kAt L0 (1) L0.length < 0 := by omega
  go_wp2_with fail
  have mk := matId_impl p0 g0.1 g0.2 w12 (T.kept (unhide K))
  simp only [unhide EB1, unhide EL0, unhide EH0] at mk
  refine (mk).mono ?_
  rintro e w14 ⟨vh0, rfl, rh0, k14⟩
  replace rw0 := rw0.kept k14 (.inr (.inr (Nat.le_refl 0)))
  replace rm0 := rm0.kept k14 (.inr (.inr (Nat.le_refl 0)))
  replace cw0_0 := k14.cell0 cw0_0
  replace cw0_1 := k14.cell0 cw0_1
  replace cg0_0 := k14.cell0 cg0_0
  replace cg0_1 := k14.cell0 cg0_1
  replace K := hide ((unhide K).trans k14)
  have z15 := k14.size
  clear k14
  clear mk
  obtain ⟨ah0, dh0, hv⟩ := rh0.form'
  subst hv
  have kn := (Kept.refl 0 0 w14).alloc (.cells #[.int .i64 H0, .slice ah0 L0.length dh0] 37)
  have ch0_0 : (w14.alloc (.cells #[.int .i64 H0, .slice ah0 L0.length dh0] 37)).cell? ⟨w14.heap.size, 0, none⟩ = some (.int .i64 H0) := new_cell2 _ _ _ _ _ _ rfl rfl
  have ch0_1 : (w14.alloc (.cells #[.int .i64 H0, .slice ah0 L0.length dh0] 37)).cell? ⟨w14.heap.size, 1, none⟩ = some (.slice ah0 L0.length dh0) := new_cell2 _ _ _ _ _ _ rfl rfl
  have t16 : w14.heap.size + 1 ≤ (w14.alloc (.cells #[.int .i64 H0, .slice ah0 L0.length dh0] 37)).heap.size := by simp
  replace rw0 := rw0.kept kn (.inr (.inr (Nat.le_refl 0)))
  replace rm0 := rm0.kept kn (.inr (.inr (Nat.le_refl 0)))
  replace rh0 := rh0.kept kn (.inr (.inr (Nat.le_refl 0)))
  replace cw0_0 := kn.cell0 cw0_0
  replace cw0_1 := kn.cell0 cw0_1
  replace cg0_0 := kn.cell0 cg0_0
  replace cg0_1 := kn.cell0 cg0_1
  replace K := hide ((unhide K).trans kn)
  have z17 := kn.size
  clear kn
  go_wp2_with fail
  generalize w14.alloc (.cells #[.int .i64 H0, .slice ah0 L0.length dh0] 37) = wm16 at *
  refine (eqMat_same (H0) _ rh0.read rw0.read).mono ?_
  rintro e w18 ⟨rfl, k18⟩
  replace rw0 := rw0.kept k18 (.inr (.inr (Nat.le_refl 0)))
  replace rm0 := rm0.kept k18 (.inr (.inr (Nat.le_refl 0)))
  replace rh0 := rh0.kept k18 (.inr (.inr (Nat.le_refl 0)))
  replace cw0_0 := k18.cell0 cw0_0
  replace cw0_1 := k18.cell0 cw0_1
  replace cg0_0 := k18.cell0 cg0_0
  replace cg0_1 := k18.cell0 cg0_1
  replace ch0_0 := k18.cell0 ch0_0
  replace ch0_1 := k18.cell0 ch0_1
  replace K := hide ((unhide K).trans k18)
  have z19 := k18.size
  clear k18
  go_wp2_with fail
  refine (heldMat_any (H0) _ (1) (by omega) (by omega) (by omega) rm0.read).mono ?_
  rintro e w20 ⟨rfl, k20⟩
  replace rw0 := rw0.kept k20 (.inr (.inr (Nat.le_refl 0)))
  replace rm0 := rm0.kept k20 (.inr (.inr (Nat.le_refl 0)))
  replace rh0 := rh0.kept k20 (.inr (.inr (Nat.le_refl 0)))
  replace cw0_0 := k20.cell0 cw0_0
  replace cw0_1 := k20.cell0 cw0_1
  replace cg0_0 := k20.cell0 cg0_0
  replace cg0_1 := k20.cell0 cg0_1
  replace ch0_0 := k20.cell0 ch0_0
  replace ch0_1 := k20.cell0 ch0_1
  replace K := hide ((unhide K).trans k20)
  have z21 := k20.size
  clear k20
  have nq021 : ¬ kAt L0 (1) L0.length < 0 := by omega
  go_wp2_with fail
  go_ret
  exact ⟨rfl, (unhide K).toBelow⟩

end Go.Proofs.YtagaofpkfpfilaaDoor
