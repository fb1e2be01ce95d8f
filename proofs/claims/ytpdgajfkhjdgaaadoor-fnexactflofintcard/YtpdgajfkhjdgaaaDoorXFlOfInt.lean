/-
  The walk of the law FnExactFlOfInt: it returns true at every argument.
-/
import Derived.Test.YtpdgajfkhjdgaaaDoorFlRd
import Derived.Test.YtpdgajfkhjdgaaaDoorLawD
import Derived.Deep.DeepCutAuto
namespace Go.Proofs.YtpdgajfkhjdgaaaDoor
open Go.RowKit
set_option linter.unusedVariables false
set_option maxRecDepth 8000
set_option linter.unusedSimpArgs false

theorem wf_FlOfInt {n : Int} (h : (Lit.int .i64 n).wf = true) : n ≤ 9223372036854775807 ∧ -9223372036854775808 ≤ n := by
  have e : (Lit.int .i64 n).wf = (decide (IntKind.i64.min ≤ n) && decide (n ≤ IntKind.i64.max)) := rfl
  rw [e, show IntKind.i64.min = -9223372036854775808 by decide, show IntKind.i64.max = 9223372036854775807 by decide] at h
  simp at h
  omega

theorem eqFl_k (k : Int) (n : Bool) (m e : Int) (w : World) :
    Calls Tryd.prog 16 #[flv k n m e, flv k n m e] w fun r w' => r = .returned (.bool true) ∧ Kept 0 0 w w' :=
  (eqFl_same k n m e w).mono (fun e w' h => ⟨h.1, by rw [h.2]; exact ((Kept.refl 0 0 w).alloc _).alloc _⟩)

set_option maxHeartbeats 4000000 in
theorem law_FlOfInt (n : Int) (fn : (Lit.int .i64 n).wf = true) (p : Int) (fp : (Lit.int .i64 p).wf = true) (w : World) (T : TabB w) :
    Calls Tryd.prog 5 #[.int .i64 n, .int .i64 p] w fun e w' => e = .returned (.bool true) ∧ Below w.heap.size w w' := by
  have gn := wf_FlOfInt fn
  obtain ⟨Q, hQ⟩ : ∃ y, fiQ n p = y := ⟨_, rfl⟩
  obtain ⟨G, hG⟩ : ∃ y, fiG n p = y := ⟨_, rfl⟩
  have HQ := hide hQ
  have HG := hide hG
  clear hQ hG
  have s0 : w.heap.size = w.heap.size := rfl
  have K := hide (Kept.refl 0 0 w)
  have S0 := hide s0
  clear s0
  go_enter Tryd.func5, Tryd.ntmps5
  go_wp2_with fail
  have mk := flofint_spec n p gn.1 gn.2 w
  rw [unhide HQ, unhide HG] at mk
  refine (mk).mono ?_
  rintro e w1 ⟨rfl, k1⟩
  replace K := hide ((unhide K).trans k1)
  have z2 := k1.size
  clear k1
  clear mk
  have kn := (Kept.refl 0 0 w1).alloc (.cells #[.int .i64 Q.1, .bool Q.2.1, .int .i64 Q.2.2.1, .int .i64 Q.2.2.2] 42)
  have W0 : (w1.alloc (.cells #[.int .i64 Q.1, .bool Q.2.1, .int .i64 Q.2.2.1, .int .i64 Q.2.2.2] 42)).cell? ⟨w1.heap.size, 0, none⟩ = some (.int .i64 Q.1) := new_cell2 _ _ _ _ _ _ rfl rfl
  have W1 : (w1.alloc (.cells #[.int .i64 Q.1, .bool Q.2.1, .int .i64 Q.2.2.1, .int .i64 Q.2.2.2] 42)).cell? ⟨w1.heap.size, 1, none⟩ = some (.bool Q.2.1) := new_cell2 _ _ _ _ _ _ rfl rfl
  have W2 : (w1.alloc (.cells #[.int .i64 Q.1, .bool Q.2.1, .int .i64 Q.2.2.1, .int .i64 Q.2.2.2] 42)).cell? ⟨w1.heap.size, 2, none⟩ = some (.int .i64 Q.2.2.1) := new_cell2 _ _ _ _ _ _ rfl rfl
  have W3 : (w1.alloc (.cells #[.int .i64 Q.1, .bool Q.2.1, .int .i64 Q.2.2.1, .int .i64 Q.2.2.2] 42)).cell? ⟨w1.heap.size, 3, none⟩ = some (.int .i64 Q.2.2.2) := new_cell2 _ _ _ _ _ _ rfl rfl
  have t3 : w1.heap.size + 1 ≤ (w1.alloc (.cells #[.int .i64 Q.1, .bool Q.2.1, .int .i64 Q.2.2.1, .int .i64 Q.2.2.2] 42)).heap.size := by simp
  replace K := hide ((unhide K).trans kn)
  have z4 := kn.size
  clear kn
  go_wp2_with fail
  generalize w1.alloc (.cells #[.int .i64 Q.1, .bool Q.2.1, .int .i64 Q.2.2.1, .int .i64 Q.2.2.2] 42) = wm3 at *
  have mk := flofint_impl n p gn.1 gn.2 wm3 (T.kept (unhide K))
  rw [unhide HQ, unhide HG] at mk
  refine (mk).mono ?_
  rintro e w5 ⟨rfl, k5⟩
  replace W0 := k5.cell0 W0
  replace W1 := k5.cell0 W1
  replace W2 := k5.cell0 W2
  replace W3 := k5.cell0 W3
  replace K := hide ((unhide K).trans k5)
  have z6 := k5.size
  clear k5
  clear mk
  have kn := (Kept.refl 0 0 w5).alloc (.cells #[.int .i64 Q.1, .bool Q.2.1, .int .i64 Q.2.2.1, .int .i64 Q.2.2.2] 42)
  have Y0 : (w5.alloc (.cells #[.int .i64 Q.1, .bool Q.2.1, .int .i64 Q.2.2.1, .int .i64 Q.2.2.2] 42)).cell? ⟨w5.heap.size, 0, none⟩ = some (.int .i64 Q.1) := new_cell2 _ _ _ _ _ _ rfl rfl
  have Y1 : (w5.alloc (.cells #[.int .i64 Q.1, .bool Q.2.1, .int .i64 Q.2.2.1, .int .i64 Q.2.2.2] 42)).cell? ⟨w5.heap.size, 1, none⟩ = some (.bool Q.2.1) := new_cell2 _ _ _ _ _ _ rfl rfl
  have Y2 : (w5.alloc (.cells #[.int .i64 Q.1, .bool Q.2.1, .int .i64 Q.2.2.1, .int .i64 Q.2.2.2] 42)).cell? ⟨w5.heap.size, 2, none⟩ = some (.int .i64 Q.2.2.1) := new_cell2 _ _ _ _ _ _ rfl rfl
  have Y3 : (w5.alloc (.cells #[.int .i64 Q.1, .bool Q.2.1, .int .i64 Q.2.2.1, .int .i64 Q.2.2.2] 42)).cell? ⟨w5.heap.size, 3, none⟩ = some (.int .i64 Q.2.2.2) := new_cell2 _ _ _ _ _ _ rfl rfl
  have t7 : w5.heap.size + 1 ≤ (w5.alloc (.cells #[.int .i64 Q.1, .bool Q.2.1, .int .i64 Q.2.2.1, .int .i64 Q.2.2.2] 42)).heap.size := by simp
  replace W0 := kn.cell0 W0
  replace W1 := kn.cell0 W1
  replace W2 := kn.cell0 W2
  replace W3 := kn.cell0 W3
  replace K := hide ((unhide K).trans kn)
  have z8 := kn.size
  clear kn
  go_wp2_with fail
  generalize w5.alloc (.cells #[.int .i64 Q.1, .bool Q.2.1, .int .i64 Q.2.2.1, .int .i64 Q.2.2.2] 42) = wm7 at *
  refine (eqFl_k Q.1 Q.2.1 Q.2.2.1 Q.2.2.2 _).mono ?_
  rintro e w9 ⟨rfl, k9⟩
  replace W0 := k9.cell0 W0
  replace W1 := k9.cell0 W1
  replace W2 := k9.cell0 W2
  replace W3 := k9.cell0 W3
  replace Y0 := k9.cell0 Y0
  replace Y1 := k9.cell0 Y1
  replace Y2 := k9.cell0 Y2
  replace Y3 := k9.cell0 Y3
  replace K := hide ((unhide K).trans k9)
  have z10 := k9.size
  clear k9
  go_wp2_with fail
  go_ret
  exact ⟨rfl, (unhide K).toBelow⟩

end Go.Proofs.YtpdgajfkhjdgaaaDoor
