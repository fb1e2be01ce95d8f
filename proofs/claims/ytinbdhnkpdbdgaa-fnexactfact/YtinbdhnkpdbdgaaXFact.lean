/-
  The walk of the law FnExactFact: it returns true at every argument.
-/
import Derived.Test.YtinbdhnkpdbdgaaFct4
import Derived.Test.YtinbdhnkpdbdgaaBC
import Derived.Deep.RegionHeld3
namespace Go.Proofs.Ytinbdhnkpdbdgaa
open Go.RowKit
set_option linter.unusedVariables false
set_option maxRecDepth 8000
set_option linter.unusedSimpArgs false

theorem wf_Fact {n : Int} (h : (Lit.int .i64 n).wf = true) : n ≤ 9223372036854775807 ∧ -9223372036854775808 ≤ n := by
  have e : (Lit.int .i64 n).wf = (decide (IntKind.i64.min ≤ n) && decide (n ≤ IntKind.i64.max)) := rfl
  rw [e, show IntKind.i64.min = -9223372036854775808 by decide, show IntKind.i64.max = 9223372036854775807 by decide] at h
  simp at h
  omega

set_option maxHeartbeats 16000000 in
theorem law_Fact (p0 : Int) (f0 : (Lit.int .i64 p0).wf = true) (w : World) :
    Calls Try.prog 3 #[.int .i64 p0] w fun e w' => e = .returned (.bool true) ∧ Below w.heap.size w w' := by
  have g0 : p0 ≤ 9223372036854775807 ∧ -9223372036854775808 ≤ p0 := wf_Fact f0
  clear f0
  have hl4 := faL_len p0
  have hl0 : (faL p0).length ≤ 1099511627776 := by omega
  have B := hide (Below.refl w.heap.size w)
  have s0 : w.heap.size ≤ w.heap.size := Nat.le_refl _
  go_enter Try.func3, Try.ntmps3
  go_wp2_with fail
  refine (fact_spec_any p0 _).mono ?_
  rintro e w1 ⟨vw0, rfl, rw0, k1⟩
  have s1 := k1.size
  replace B := hide (below_step (unhide B) k1 (Nat.le_refl _) (by omega))
  clear k1
  obtain ⟨aw0, dw0, hv⟩ := Row.form' rw0
  subst hv
  have k2 := (Kept.refl 0 0 w1).alloc (.cells #[.slice aw0 (faL p0).length dw0] 24)
  have cw0 : (w1.alloc (.cells #[.slice aw0 (faL p0).length dw0] 24)).cell? ⟨w1.heap.size, 0, none⟩ = some (.slice aw0 (faL p0).length dw0) := new_cell_at _ _ _ _ rfl
  have t2 : w1.heap.size + 1 ≤ (w1.alloc (.cells #[.slice aw0 (faL p0).length dw0] 24)).heap.size := by simp
  replace rw0 := rw0.kept k2 (by omega)
  have s2 := k2.size
  replace B := hide (below_step (unhide B) k2 (Nat.le_refl _) (by omega))
  clear k2
  go_wp2_with fail
  generalize w1.alloc (.cells #[.slice aw0 (faL p0).length dw0] 24) = w2 at *
  refine (fact_impl_any p0 _).mono ?_
  rintro e w3 ⟨vg0, rfl, rg0, k3⟩
  replace rw0 := rw0.kept k3 (by omega)
  replace cw0 := k3.cell0 cw0
  have s3 := k3.size
  replace B := hide (below_step (unhide B) k3 (Nat.le_refl _) (by omega))
  clear k3
  obtain ⟨ag0, dg0, hv⟩ := Row.form' rg0
  subst hv
  have k4 := (Kept.refl 0 0 w3).alloc (.cells #[.slice ag0 (faL p0).length dg0] 24)
  have cg0 : (w3.alloc (.cells #[.slice ag0 (faL p0).length dg0] 24)).cell? ⟨w3.heap.size, 0, none⟩ = some (.slice ag0 (faL p0).length dg0) := new_cell_at _ _ _ _ rfl
  have t4 : w3.heap.size + 1 ≤ (w3.alloc (.cells #[.slice ag0 (faL p0).length dg0] 24)).heap.size := by simp
  replace rw0 := rw0.kept k4 (by omega)
  replace rg0 := rg0.kept k4 (by omega)
  replace cw0 := k4.cell0 cw0
  have s4 := k4.size
  replace B := hide (below_step (unhide B) k4 (Nat.le_refl _) (by omega))
  clear k4
  go_wp2_with fail
  generalize w3.alloc (.cells #[.slice ag0 (faL p0).length dg0] 24) = w4 at *
  refine (eqNat_same _ rg0 rw0).mono ?_
  rintro e w5 ⟨rfl, k5⟩
  replace rw0 := rw0.kept k5 (by omega)
  replace rg0 := rg0.kept k5 (by omega)
  replace cw0 := k5.cell0 cw0
  replace cg0 := k5.cell0 cg0
  have s5 := k5.size
  replace B := hide (below_step (unhide B) k5 (Nat.le_refl _) (by omega))
  clear k5
  go_wp2_with fail
  refine (markNat_wide _ (1) (by omega) (by omega) hl0 rg0).mono ?_
  rintro e w6 ⟨rfl, rm0, k6⟩
  replace rw0 := rw0.kept k6 (by omega)
  replace cw0 := k6.cellOut (by simp <;> omega) cw0
  replace cg0 := k6.cellOut (by simp <;> omega) cg0
  have s6 := k6.size
  replace B := hide (below_step (unhide B) k6 (Nat.le_refl _) (by omega))
  clear k6
  clear rg0
  go_wp2_with fail
  refine (heldNat_any _ (1) (by omega) (by omega) hl0 rm0).mono ?_
  rintro e w7 ⟨rfl, k7⟩
  replace rw0 := rw0.kept k7 (by omega)
  replace rm0 := rm0.kept k7 (by omega)
  replace cw0 := k7.cell0 cw0
  replace cg0 := k7.cell0 cg0
  have s7 := k7.size
  replace B := hide (below_step (unhide B) k7 (Nat.le_refl _) (by omega))
  clear k7
  have nq : ¬ (1 + ((faL p0).length : Int)) < 0 := by omega
  go_wp2_with fail
  refine (fact_impl_any p0 _).mono ?_
  rintro e w8 ⟨vh0, rfl, rh0, k8⟩
  replace rw0 := rw0.kept k8 (by omega)
  replace rm0 := rm0.kept k8 (by omega)
  replace cw0 := k8.cell0 cw0
  replace cg0 := k8.cell0 cg0
  have s8 := k8.size
  replace B := hide (below_step (unhide B) k8 (Nat.le_refl _) (by omega))
  clear k8
  obtain ⟨ah0, dh0, hv⟩ := Row.form' rh0
  subst hv
  have k9 := (Kept.refl 0 0 w8).alloc (.cells #[.slice ah0 (faL p0).length dh0] 24)
  have ch0 : (w8.alloc (.cells #[.slice ah0 (faL p0).length dh0] 24)).cell? ⟨w8.heap.size, 0, none⟩ = some (.slice ah0 (faL p0).length dh0) := new_cell_at _ _ _ _ rfl
  have t9 : w8.heap.size + 1 ≤ (w8.alloc (.cells #[.slice ah0 (faL p0).length dh0] 24)).heap.size := by simp
  replace rw0 := rw0.kept k9 (by omega)
  replace rm0 := rm0.kept k9 (by omega)
  replace rh0 := rh0.kept k9 (by omega)
  replace cw0 := k9.cell0 cw0
  replace cg0 := k9.cell0 cg0
  have s9 := k9.size
  replace B := hide (below_step (unhide B) k9 (Nat.le_refl _) (by omega))
  clear k9
  go_wp2_with fail
  generalize w8.alloc (.cells #[.slice ah0 (faL p0).length dh0] 24) = w9 at *
  refine (eqNat_same _ rh0 rw0).mono ?_
  rintro e w10 ⟨rfl, k10⟩
  replace rw0 := rw0.kept k10 (by omega)
  replace rm0 := rm0.kept k10 (by omega)
  replace rh0 := rh0.kept k10 (by omega)
  replace cw0 := k10.cell0 cw0
  replace cg0 := k10.cell0 cg0
  replace ch0 := k10.cell0 ch0
  have s10 := k10.size
  replace B := hide (below_step (unhide B) k10 (Nat.le_refl _) (by omega))
  clear k10
  go_wp2_with fail
  refine (heldNat_any _ (1) (by omega) (by omega) hl0 rm0).mono ?_
  rintro e w11 ⟨rfl, k11⟩
  replace rw0 := rw0.kept k11 (by omega)
  replace rm0 := rm0.kept k11 (by omega)
  replace rh0 := rh0.kept k11 (by omega)
  replace cw0 := k11.cell0 cw0
  replace cg0 := k11.cell0 cg0
  replace ch0 := k11.cell0 ch0
  have s11 := k11.size
  replace B := hide (below_step (unhide B) k11 (Nat.le_refl _) (by omega))
  clear k11
  go_wp2_with fail
  go_ret
  exact ⟨rfl, unhide B⟩

end Go.Proofs.Ytinbdhnkpdbdgaa
