/-
  The walk of the law FnExactFlToInt: it returns true at every argument.
-/
import Derived.Test.YtpdgajfkhjdgaaaDoorFti
import Derived.Test.YtpdgajfkhjdgaaaDoorLawW
import Derived.Deep.DeepCutAuto
namespace Go.Proofs.YtpdgajfkhjdgaaaDoor
open Go.RowKit
set_option linter.unusedVariables false
set_option maxRecDepth 8000
set_option linter.unusedSimpArgs false

theorem wf_FlToInt {n : Int} (h : (Lit.int .i64 n).wf = true) : n ≤ 9223372036854775807 ∧ -9223372036854775808 ≤ n := by
  have e : (Lit.int .i64 n).wf = (decide (IntKind.i64.min ≤ n) && decide (n ≤ IntKind.i64.max)) := rfl
  rw [e, show IntKind.i64.min = -9223372036854775808 by decide, show IntKind.i64.max = 9223372036854775807 by decide] at h
  simp at h
  omega

set_option maxHeartbeats 16000000 in
theorem law_FlToInt   (fk0 : Int) (fn0 : Bool) (fm0 fe0 : Int) (_ : (Lit.int .i64 fm0).wf = true) (_ : (Lit.int .i64 fe0).wf = true) (p1 : Int) (f1 : (Lit.int .i64 p1).wf = true) (w : World) (T : TabB w) :
    Calls Tryd.prog 6 #[flv fk0 fn0 fm0 fe0, .int .i64 p1] w fun e w' => e = .returned (.bool true) ∧ Below w.heap.size w w' := by
  have g1 : p1 ≤ 9223372036854775807 ∧ -9223372036854775808 ≤ p1 := wf_FlToInt f1
  clear f1
  obtain ⟨L0, hL0⟩ : ∃ L, tiL fk0 fn0 fm0 fe0 p1 = L := ⟨_, rfl⟩
  obtain ⟨G0, hG0⟩ : ∃ G, tiS fk0 fn0 fm0 fe0 p1 = G := ⟨_, rfl⟩
  obtain ⟨B1, hB1⟩ : ∃ B, tiB fk0 fn0 fm0 fe0 p1 = B := ⟨_, rfl⟩
  have hn'0 : L0.length ≤ 100 := by rw [← hL0]; exact tiL_len _ _ _ _ _
  have hq0 : L0.length ≤ 1099511627776 := by omega
  skip
  have k0 : Kept 0 0 w (w.alloc (.cells #[.int .i64 fk0, .bool fn0, .int .i64 fm0, .int .i64 fe0] 50)) := ((Kept.refl 0 0 w).alloc (.cells #[.int .i64 fk0, .bool fn0, .int .i64 fm0, .int .i64 fe0] 50))
  have A0_0 : (w.alloc (.cells #[.int .i64 fk0, .bool fn0, .int .i64 fm0, .int .i64 fe0] 50)).cell? ⟨w.heap.size, 0, none⟩ = some (.int .i64 fk0) := new_cell2 _ _ _ _ _ _ (by simp) rfl
  have A0_1 : (w.alloc (.cells #[.int .i64 fk0, .bool fn0, .int .i64 fm0, .int .i64 fe0] 50)).cell? ⟨w.heap.size, 1, none⟩ = some (.bool fn0) := new_cell2 _ _ _ _ _ _ (by simp) rfl
  have A0_2 : (w.alloc (.cells #[.int .i64 fk0, .bool fn0, .int .i64 fm0, .int .i64 fe0] 50)).cell? ⟨w.heap.size, 2, none⟩ = some (.int .i64 fm0) := new_cell2 _ _ _ _ _ _ (by simp) rfl
  have A0_3 : (w.alloc (.cells #[.int .i64 fk0, .bool fn0, .int .i64 fm0, .int .i64 fe0] 50)).cell? ⟨w.heap.size, 3, none⟩ = some (.int .i64 fe0) := new_cell2 _ _ _ _ _ _ (by simp) rfl
  have s0 : (w.alloc (.cells #[.int .i64 fk0, .bool fn0, .int .i64 fm0, .int .i64 fe0] 50)).heap.size = w.heap.size + 1 := by simp
  have K := hide (k0)
  clear k0
  have S0 := hide s0
  clear s0
  have EL0 := hide hL0
  have EG0 := hide hG0
  have EB1 := hide hB1
  clear hL0 hG0 hB1
  go_enter Tryd.func6, Tryd.ntmps6
  skip
  go_wp2_with fail
  generalize (w.alloc (.cells #[.int .i64 fk0, .bool fn0, .int .i64 fm0, .int .i64 fe0] 50)) = W at *
  refine (toFl_k fk0 fn0 fm0 fe0 _).mono ?_
  rintro e w1 ⟨rfl, k1⟩
  replace A0_0 := k1.cell0 A0_0
  replace A0_1 := k1.cell0 A0_1
  replace A0_2 := k1.cell0 A0_2
  replace A0_3 := k1.cell0 A0_3
  replace K := hide ((unhide K).trans k1)
  have z2 := k1.size
  clear k1
  go_wp2_with fail
  have mk := ftoint_spec fk0 fn0 fm0 fe0 p1 w1
  simp only [unhide EL0, unhide EG0, unhide EB1] at mk
  refine (mk).mono ?_
  rintro e w3 ⟨vw0, rfl, rw0, k3⟩
  replace A0_0 := k3.cell0 A0_0
  replace A0_1 := k3.cell0 A0_1
  replace A0_2 := k3.cell0 A0_2
  replace A0_3 := k3.cell0 A0_3
  replace K := hide ((unhide K).trans k3)
  have z4 := k3.size
  clear k3
  clear mk
  obtain ⟨aw0, dw0, hv⟩ := Row.form' rw0
  subst hv
  have kn := (Kept.refl 0 0 w3).alloc (.cells #[.bool G0, .slice aw0 L0.length dw0] 32)
  have cw0_0 : (w3.alloc (.cells #[.bool G0, .slice aw0 L0.length dw0] 32)).cell? ⟨w3.heap.size, 0, none⟩ = some (.bool G0) := new_cell2 _ _ _ _ _ _ rfl rfl
  have cw0_1 : (w3.alloc (.cells #[.bool G0, .slice aw0 L0.length dw0] 32)).cell? ⟨w3.heap.size, 1, none⟩ = some (.slice aw0 L0.length dw0) := new_cell2 _ _ _ _ _ _ rfl rfl
  have t5 : w3.heap.size + 1 ≤ (w3.alloc (.cells #[.bool G0, .slice aw0 L0.length dw0] 32)).heap.size := by simp
  replace rw0 := rw0.kept kn (.inr (.inr (Nat.le_refl 0)))
  replace A0_0 := kn.cell0 A0_0
  replace A0_1 := kn.cell0 A0_1
  replace A0_2 := kn.cell0 A0_2
  replace A0_3 := kn.cell0 A0_3
  replace K := hide ((unhide K).trans kn)
  have z6 := kn.size
  clear kn
  go_wp2_with fail
  generalize w3.alloc (.cells #[.bool G0, .slice aw0 L0.length dw0] 32) = wm5 at *
  refine (toFl_k fk0 fn0 fm0 fe0 _).mono ?_
  rintro e w7 ⟨rfl, k7⟩
  replace rw0 := rw0.kept k7 (.inr (.inr (Nat.le_refl 0)))
  replace A0_0 := k7.cell0 A0_0
  replace A0_1 := k7.cell0 A0_1
  replace A0_2 := k7.cell0 A0_2
  replace A0_3 := k7.cell0 A0_3
  replace cw0_0 := k7.cell0 cw0_0
  replace cw0_1 := k7.cell0 cw0_1
  replace K := hide ((unhide K).trans k7)
  have z8 := k7.size
  clear k7
  go_wp2_with fail
  have mk := ftoint_impl fk0 fn0 fm0 fe0 p1 w7 (T.kept (unhide K))
  simp only [unhide EL0, unhide EG0, unhide EB1] at mk
  refine (mk).mono ?_
  rintro e w9 ⟨vg0, rfl, rg0, k9⟩
  replace rw0 := rw0.kept k9 (.inr (.inr (Nat.le_refl 0)))
  replace A0_0 := k9.cell0 A0_0
  replace A0_1 := k9.cell0 A0_1
  replace A0_2 := k9.cell0 A0_2
  replace A0_3 := k9.cell0 A0_3
  replace cw0_0 := k9.cell0 cw0_0
  replace cw0_1 := k9.cell0 cw0_1
  replace K := hide ((unhide K).trans k9)
  have z10 := k9.size
  clear k9
  clear mk
  obtain ⟨ag0, dg0, hv⟩ := Row.form' rg0
  subst hv
  have kn := (Kept.refl 0 0 w9).alloc (.cells #[.bool G0, .slice ag0 L0.length dg0] 32)
  have cg0_0 : (w9.alloc (.cells #[.bool G0, .slice ag0 L0.length dg0] 32)).cell? ⟨w9.heap.size, 0, none⟩ = some (.bool G0) := new_cell2 _ _ _ _ _ _ rfl rfl
  have cg0_1 : (w9.alloc (.cells #[.bool G0, .slice ag0 L0.length dg0] 32)).cell? ⟨w9.heap.size, 1, none⟩ = some (.slice ag0 L0.length dg0) := new_cell2 _ _ _ _ _ _ rfl rfl
  have t11 : w9.heap.size + 1 ≤ (w9.alloc (.cells #[.bool G0, .slice ag0 L0.length dg0] 32)).heap.size := by simp
  replace rw0 := rw0.kept kn (.inr (.inr (Nat.le_refl 0)))
  replace rg0 := rg0.kept kn (.inr (.inr (Nat.le_refl 0)))
  replace A0_0 := kn.cell0 A0_0
  replace A0_1 := kn.cell0 A0_1
  replace A0_2 := kn.cell0 A0_2
  replace A0_3 := kn.cell0 A0_3
  replace cw0_0 := kn.cell0 cw0_0
  replace cw0_1 := kn.cell0 cw0_1
  replace K := hide ((unhide K).trans kn)
  have z12 := kn.size
  clear kn
  go_wp2_with fail
  generalize w9.alloc (.cells #[.bool G0, .slice ag0 L0.length dg0] 32) = wm11 at *
  refine (eqWhole_same (G0) _ rg0 rw0).mono ?_
  rintro e w13 ⟨rfl, k13⟩
  replace rw0 := rw0.kept k13 (.inr (.inr (Nat.le_refl 0)))
  replace rg0 := rg0.kept k13 (.inr (.inr (Nat.le_refl 0)))
  replace A0_0 := k13.cell0 A0_0
  replace A0_1 := k13.cell0 A0_1
  replace A0_2 := k13.cell0 A0_2
  replace A0_3 := k13.cell0 A0_3
  replace cw0_0 := k13.cell0 cw0_0
  replace cw0_1 := k13.cell0 cw0_1
  replace cg0_0 := k13.cell0 cg0_0
  replace cg0_1 := k13.cell0 cg0_1
  replace K := hide ((unhide K).trans k13)
  have z14 := k13.size
  clear k13
  have S0' := unhide S0
  go_wp2_with fail
  refine (markWhole_wide (G0) _ (1) (by omega) (by omega) hq0 rg0).mono ?_
  rintro e w15 ⟨rfl, rm0, k15⟩
  replace rw0 := rw0.kept k15 (by omega)
  replace A0_0 := k15.cellOut (by dsimp only; omega) A0_0
  replace A0_1 := k15.cellOut (by dsimp only; omega) A0_1
  replace A0_2 := k15.cellOut (by dsimp only; omega) A0_2
  replace A0_3 := k15.cellOut (by dsimp only; omega) A0_3
  replace cw0_0 := k15.cellOut (by dsimp only; omega) cw0_0
  replace cw0_1 := k15.cellOut (by dsimp only; omega) cw0_1
  replace cg0_0 := k15.cellOut (by dsimp only; omega) cg0_0
  replace cg0_1 := k15.cellOut (by dsimp only; omega) cg0_1
  replace K := hide ((unhide K).wide k15 (by omega))
  have z15 := k15.size
  clear k15 rg0
  go_wp2_with fail
  refine (heldWhole_any (G0) _ (1) (by omega) (by omega) hq0 rm0).mono ?_
  rintro e w16 ⟨rfl, k16⟩
  replace rw0 := rw0.kept k16 (.inr (.inr (Nat.le_refl 0)))
  replace rm0 := rm0.kept k16 (.inr (.inr (Nat.le_refl 0)))
  replace A0_0 := k16.cell0 A0_0
  replace A0_1 := k16.cell0 A0_1
  replace A0_2 := k16.cell0 A0_2
  replace A0_3 := k16.cell0 A0_3
  replace cw0_0 := k16.cell0 cw0_0
  replace cw0_1 := k16.cell0 cw0_1
  replace cg0_0 := k16.cell0 cg0_0
  replace cg0_1 := k16.cell0 cg0_1
  replace K := hide ((unhide K).trans k16)
  have z17 := k16.size
  clear k16
  have nq017 : ¬ (1 + (L0.length : Int)) < 0 := by omega
  go_wp2_with fail
  refine (toFl_k fk0 fn0 fm0 fe0 _).mono ?_
  rintro e w18 ⟨rfl, k18⟩
  replace rw0 := rw0.kept k18 (.inr (.inr (Nat.le_refl 0)))
  replace rm0 := rm0.kept k18 (.inr (.inr (Nat.le_refl 0)))
  replace A0_0 := k18.cell0 A0_0
  replace A0_1 := k18.cell0 A0_1
  replace A0_2 := k18.cell0 A0_2
  replace A0_3 := k18.cell0 A0_3
  replace cw0_0 := k18.cell0 cw0_0
  replace cw0_1 := k18.cell0 cw0_1
  replace cg0_0 := k18.cell0 cg0_0
  replace cg0_1 := k18.cell0 cg0_1
  replace K := hide ((unhide K).trans k18)
  have z19 := k18.size
  clear k18
  go_wp2_with fail
  have mk := ftoint_impl fk0 fn0 fm0 fe0 p1 w18 (T.kept (unhide K))
  simp only [unhide EL0, unhide EG0, unhide EB1] at mk
  refine (mk).mono ?_
  rintro e w20 ⟨vh0, rfl, rh0, k20⟩
  replace rw0 := rw0.kept k20 (.inr (.inr (Nat.le_refl 0)))
  replace rm0 := rm0.kept k20 (.inr (.inr (Nat.le_refl 0)))
  replace A0_0 := k20.cell0 A0_0
  replace A0_1 := k20.cell0 A0_1
  replace A0_2 := k20.cell0 A0_2
  replace A0_3 := k20.cell0 A0_3
  replace cw0_0 := k20.cell0 cw0_0
  replace cw0_1 := k20.cell0 cw0_1
  replace cg0_0 := k20.cell0 cg0_0
  replace cg0_1 := k20.cell0 cg0_1
  replace K := hide ((unhide K).trans k20)
  have z21 := k20.size
  clear k20
  clear mk
  obtain ⟨ah0, dh0, hv⟩ := Row.form' rh0
  subst hv
  have kn := (Kept.refl 0 0 w20).alloc (.cells #[.bool G0, .slice ah0 L0.length dh0] 32)
  have ch0_0 : (w20.alloc (.cells #[.bool G0, .slice ah0 L0.length dh0] 32)).cell? ⟨w20.heap.size, 0, none⟩ = some (.bool G0) := new_cell2 _ _ _ _ _ _ rfl rfl
  have ch0_1 : (w20.alloc (.cells #[.bool G0, .slice ah0 L0.length dh0] 32)).cell? ⟨w20.heap.size, 1, none⟩ = some (.slice ah0 L0.length dh0) := new_cell2 _ _ _ _ _ _ rfl rfl
  have t22 : w20.heap.size + 1 ≤ (w20.alloc (.cells #[.bool G0, .slice ah0 L0.length dh0] 32)).heap.size := by simp
  replace rw0 := rw0.kept kn (.inr (.inr (Nat.le_refl 0)))
  replace rm0 := rm0.kept kn (.inr (.inr (Nat.le_refl 0)))
  replace rh0 := rh0.kept kn (.inr (.inr (Nat.le_refl 0)))
  replace A0_0 := kn.cell0 A0_0
  replace A0_1 := kn.cell0 A0_1
  replace A0_2 := kn.cell0 A0_2
  replace A0_3 := kn.cell0 A0_3
  replace cw0_0 := kn.cell0 cw0_0
  replace cw0_1 := kn.cell0 cw0_1
  replace cg0_0 := kn.cell0 cg0_0
  replace cg0_1 := kn.cell0 cg0_1
  replace K := hide ((unhide K).trans kn)
  have z23 := kn.size
  clear kn
  go_wp2_with fail
  generalize w20.alloc (.cells #[.bool G0, .slice ah0 L0.length dh0] 32) = wm22 at *
  refine (eqWhole_same (G0) _ rh0 rw0).mono ?_
  rintro e w24 ⟨rfl, k24⟩
  replace rw0 := rw0.kept k24 (.inr (.inr (Nat.le_refl 0)))
  replace rm0 := rm0.kept k24 (.inr (.inr (Nat.le_refl 0)))
  replace rh0 := rh0.kept k24 (.inr (.inr (Nat.le_refl 0)))
  replace A0_0 := k24.cell0 A0_0
  replace A0_1 := k24.cell0 A0_1
  replace A0_2 := k24.cell0 A0_2
  replace A0_3 := k24.cell0 A0_3
  replace cw0_0 := k24.cell0 cw0_0
  replace cw0_1 := k24.cell0 cw0_1
  replace cg0_0 := k24.cell0 cg0_0
  replace cg0_1 := k24.cell0 cg0_1
  replace ch0_0 := k24.cell0 ch0_0
  replace ch0_1 := k24.cell0 ch0_1
  replace K := hide ((unhide K).trans k24)
  have z25 := k24.size
  clear k24
  go_wp2_with fail
  refine (heldWhole_any (G0) _ (1) (by omega) (by omega) hq0 rm0).mono ?_
  rintro e w26 ⟨rfl, k26⟩
  replace rw0 := rw0.kept k26 (.inr (.inr (Nat.le_refl 0)))
  replace rm0 := rm0.kept k26 (.inr (.inr (Nat.le_refl 0)))
  replace rh0 := rh0.kept k26 (.inr (.inr (Nat.le_refl 0)))
  replace A0_0 := k26.cell0 A0_0
  replace A0_1 := k26.cell0 A0_1
  replace A0_2 := k26.cell0 A0_2
  replace A0_3 := k26.cell0 A0_3
  replace cw0_0 := k26.cell0 cw0_0
  replace cw0_1 := k26.cell0 cw0_1
  replace cg0_0 := k26.cell0 cg0_0
  replace cg0_1 := k26.cell0 cg0_1
  replace ch0_0 := k26.cell0 ch0_0
  replace ch0_1 := k26.cell0 ch0_1
  replace K := hide ((unhide K).trans k26)
  have z27 := k26.size
  clear k26
  have nq027 : ¬ (1 + (L0.length : Int)) < 0 := by omega
  go_wp2_with fail
  go_ret
  exact ⟨rfl, (unhide K).toBelow⟩

end Go.Proofs.YtpdgajfkhjdgaaaDoor
