/-
  The walk of the law FnExactWholeOf: it returns true at every argument.
-/
import Derived.Test.YtdhponfpikclhaaIWh4
import Derived.Test.YtdhponfpikclhaaLawW
import Derived.Deep.DeepCutAuto
namespace Go.Proofs.Ytdhponfpikclhaa
open Go.RowKit
set_option linter.unusedVariables false
set_option maxRecDepth 8000
set_option linter.unusedSimpArgs false

theorem wf_WholeOf {n : Int} (h : (Lit.int .i64 n).wf = true) : n ≤ 9223372036854775807 ∧ -9223372036854775808 ≤ n := by
  have e : (Lit.int .i64 n).wf = (decide (IntKind.i64.min ≤ n) && decide (n ≤ IntKind.i64.max)) := rfl
  rw [e, show IntKind.i64.min = -9223372036854775808 by decide, show IntKind.i64.max = 9223372036854775807 by decide] at h
  simp at h
  omega

set_option maxHeartbeats 16000000 in
theorem law_WholeOf   (p0 : Int) (f0 : (Lit.int .i64 p0).wf = true) (w : World) :
    Calls Try.prog 16 #[.int .i64 p0] w fun e w' => e = .returned (.bool true) ∧ Below w.heap.size w w' := by
  have g0 : p0 ≤ 9223372036854775807 ∧ -9223372036854775808 ≤ p0 := wf_WholeOf f0
  clear f0
  obtain ⟨L0, hL0⟩ : ∃ L, wlm p0 = L := ⟨_, rfl⟩
  obtain ⟨G0, hG0⟩ : ∃ G, wsg p0 = G := ⟨_, rfl⟩
  have hn'0 : L0.length ≤ 100 := by rw [← hL0]; exact wlm_small p0 g0.1 g0.2
  have hq0 : L0.length ≤ 1099511627776 := by omega
  skip
  have s0 : w.heap.size = w.heap.size := rfl
  have K := hide (Kept.refl 0 0 w)
  have S0 := hide s0
  clear s0
  have EL0 := hide hL0
  have EG0 := hide hG0
  clear hL0 hG0
  go_enter Try.func16, Try.ntmps16
  skip
  go_wp2_with fail
  have mk := wOf_spec p0 g0.1 g0.2 w
  simp only [unhide EL0, unhide EG0] at mk
  refine (mk).mono ?_
  rintro e w1 ⟨vw0, rfl, rw0, k1⟩
  replace K := hide ((unhide K).trans k1)
  have z2 := k1.size
  clear k1
  clear mk
  obtain ⟨aw0, dw0, hv⟩ := Row.form' rw0
  subst hv
  have kn := (Kept.refl 0 0 w1).alloc (.cells #[.bool G0, .slice aw0 L0.length dw0] 47)
  have cw0_0 : (w1.alloc (.cells #[.bool G0, .slice aw0 L0.length dw0] 47)).cell? ⟨w1.heap.size, 0, none⟩ = some (.bool G0) := new_cell2 _ _ _ _ _ _ rfl rfl
  have cw0_1 : (w1.alloc (.cells #[.bool G0, .slice aw0 L0.length dw0] 47)).cell? ⟨w1.heap.size, 1, none⟩ = some (.slice aw0 L0.length dw0) := new_cell2 _ _ _ _ _ _ rfl rfl
  have t3 : w1.heap.size + 1 ≤ (w1.alloc (.cells #[.bool G0, .slice aw0 L0.length dw0] 47)).heap.size := by simp
  replace rw0 := rw0.kept kn (by omega)
  replace K := hide ((unhide K).trans kn)
  have z4 := kn.size
  clear kn
  go_wp2_with fail
  generalize w1.alloc (.cells #[.bool G0, .slice aw0 L0.length dw0] 47) = wm3 at *
  have mk := wOf_impl p0 g0.1 g0.2 wm3
  simp only [unhide EL0, unhide EG0] at mk
  refine (mk).mono ?_
  rintro e w5 ⟨vg0, rfl, rg0, k5⟩
  replace rw0 := rw0.kept k5 (by omega)
  replace cw0_0 := k5.cell0 cw0_0
  replace cw0_1 := k5.cell0 cw0_1
  replace K := hide ((unhide K).trans k5)
  have z6 := k5.size
  clear k5
  clear mk
  obtain ⟨ag0, dg0, hv⟩ := Row.form' rg0
  subst hv
  have kn := (Kept.refl 0 0 w5).alloc (.cells #[.bool G0, .slice ag0 L0.length dg0] 47)
  have cg0_0 : (w5.alloc (.cells #[.bool G0, .slice ag0 L0.length dg0] 47)).cell? ⟨w5.heap.size, 0, none⟩ = some (.bool G0) := new_cell2 _ _ _ _ _ _ rfl rfl
  have cg0_1 : (w5.alloc (.cells #[.bool G0, .slice ag0 L0.length dg0] 47)).cell? ⟨w5.heap.size, 1, none⟩ = some (.slice ag0 L0.length dg0) := new_cell2 _ _ _ _ _ _ rfl rfl
  have t7 : w5.heap.size + 1 ≤ (w5.alloc (.cells #[.bool G0, .slice ag0 L0.length dg0] 47)).heap.size := by simp
  replace rw0 := rw0.kept kn (by omega)
  replace rg0 := rg0.kept kn (by omega)
  replace cw0_0 := kn.cell0 cw0_0
  replace cw0_1 := kn.cell0 cw0_1
  replace K := hide ((unhide K).trans kn)
  have z8 := kn.size
  clear kn
  go_wp2_with fail
  generalize w5.alloc (.cells #[.bool G0, .slice ag0 L0.length dg0] 47) = wm7 at *
  refine (eqWhole_same (G0) _ rg0 rw0).mono ?_
  rintro e w9 ⟨rfl, k9⟩
  replace rw0 := rw0.kept k9 (by omega)
  replace rg0 := rg0.kept k9 (by omega)
  replace cw0_0 := k9.cell0 cw0_0
  replace cw0_1 := k9.cell0 cw0_1
  replace cg0_0 := k9.cell0 cg0_0
  replace cg0_1 := k9.cell0 cg0_1
  replace K := hide ((unhide K).trans k9)
  have z10 := k9.size
  clear k9
  have S0' := unhide S0
  go_wp2_with fail
  refine (markWhole_wide (G0) _ (1) (by omega) (by omega) hq0 rg0).mono ?_
  rintro e w11 ⟨rfl, rm0, k11⟩
  replace rw0 := rw0.kept k11 (by omega)
  replace cw0_0 := k11.cellOut (by dsimp only; omega) cw0_0
  replace cw0_1 := k11.cellOut (by dsimp only; omega) cw0_1
  replace cg0_0 := k11.cellOut (by dsimp only; omega) cg0_0
  replace cg0_1 := k11.cellOut (by dsimp only; omega) cg0_1
  replace K := hide ((unhide K).wide k11 (by omega))
  have z11 := k11.size
  clear k11 rg0
  go_wp2_with fail
  refine (heldWhole_any (G0) _ (1) (by omega) (by omega) hq0 rm0).mono ?_
  rintro e w12 ⟨rfl, k12⟩
  replace rw0 := rw0.kept k12 (by omega)
  replace rm0 := rm0.kept k12 (by omega)
  replace cw0_0 := k12.cell0 cw0_0
  replace cw0_1 := k12.cell0 cw0_1
  replace cg0_0 := k12.cell0 cg0_0
  replace cg0_1 := k12.cell0 cg0_1
  replace K := hide ((unhide K).trans k12)
  have z13 := k12.size
  clear k12
  have nq013 : ¬ (1 + (L0.length : Int)) < 0 := by omega
  go_wp2_with fail
  have mk := wOf_impl p0 g0.1 g0.2 w12
  simp only [unhide EL0, unhide EG0] at mk
  refine (mk).mono ?_
  rintro e w14 ⟨vh0, rfl, rh0, k14⟩
  replace rw0 := rw0.kept k14 (by omega)
  replace rm0 := rm0.kept k14 (by omega)
  replace cw0_0 := k14.cell0 cw0_0
  replace cw0_1 := k14.cell0 cw0_1
  replace cg0_0 := k14.cell0 cg0_0
  replace cg0_1 := k14.cell0 cg0_1
  replace K := hide ((unhide K).trans k14)
  have z15 := k14.size
  clear k14
  clear mk
  obtain ⟨ah0, dh0, hv⟩ := Row.form' rh0
  subst hv
  have kn := (Kept.refl 0 0 w14).alloc (.cells #[.bool G0, .slice ah0 L0.length dh0] 47)
  have ch0_0 : (w14.alloc (.cells #[.bool G0, .slice ah0 L0.length dh0] 47)).cell? ⟨w14.heap.size, 0, none⟩ = some (.bool G0) := new_cell2 _ _ _ _ _ _ rfl rfl
  have ch0_1 : (w14.alloc (.cells #[.bool G0, .slice ah0 L0.length dh0] 47)).cell? ⟨w14.heap.size, 1, none⟩ = some (.slice ah0 L0.length dh0) := new_cell2 _ _ _ _ _ _ rfl rfl
  have t16 : w14.heap.size + 1 ≤ (w14.alloc (.cells #[.bool G0, .slice ah0 L0.length dh0] 47)).heap.size := by simp
  replace rw0 := rw0.kept kn (by omega)
  replace rm0 := rm0.kept kn (by omega)
  replace rh0 := rh0.kept kn (by omega)
  replace cw0_0 := kn.cell0 cw0_0
  replace cw0_1 := kn.cell0 cw0_1
  replace cg0_0 := kn.cell0 cg0_0
  replace cg0_1 := kn.cell0 cg0_1
  replace K := hide ((unhide K).trans kn)
  have z17 := kn.size
  clear kn
  go_wp2_with fail
  generalize w14.alloc (.cells #[.bool G0, .slice ah0 L0.length dh0] 47) = wm16 at *
  refine (eqWhole_same (G0) _ rh0 rw0).mono ?_
  rintro e w18 ⟨rfl, k18⟩
  replace rw0 := rw0.kept k18 (by omega)
  replace rm0 := rm0.kept k18 (by omega)
  replace rh0 := rh0.kept k18 (by omega)
  replace cw0_0 := k18.cell0 cw0_0
  replace cw0_1 := k18.cell0 cw0_1
  replace cg0_0 := k18.cell0 cg0_0
  replace cg0_1 := k18.cell0 cg0_1
  replace ch0_0 := k18.cell0 ch0_0
  replace ch0_1 := k18.cell0 ch0_1
  replace K := hide ((unhide K).trans k18)
  have z19 := k18.size
  clear k18
  go_wp2_with fail
  refine (heldWhole_any (G0) _ (1) (by omega) (by omega) hq0 rm0).mono ?_
  rintro e w20 ⟨rfl, k20⟩
  replace rw0 := rw0.kept k20 (by omega)
  replace rm0 := rm0.kept k20 (by omega)
  replace rh0 := rh0.kept k20 (by omega)
  replace cw0_0 := k20.cell0 cw0_0
  replace cw0_1 := k20.cell0 cw0_1
  replace cg0_0 := k20.cell0 cg0_0
  replace cg0_1 := k20.cell0 cg0_1
  replace ch0_0 := k20.cell0 ch0_0
  replace ch0_1 := k20.cell0 ch0_1
  replace K := hide ((unhide K).trans k20)
  have z21 := k20.size
  clear k20
  have nq021 : ¬ (1 + (L0.length : Int)) < 0 := by omega
  go_wp2_with fail
  go_ret
  exact ⟨rfl, (unhide K).toBelow⟩

end Go.Proofs.Ytdhponfpikclhaa
