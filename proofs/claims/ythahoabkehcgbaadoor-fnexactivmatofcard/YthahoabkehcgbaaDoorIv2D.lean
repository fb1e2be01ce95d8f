/-
  Intervals of the program: bothEnds over dyadic numbers.
-/
import Derived.Test.YthahoabkehcgbaaDoorIvN
import Derived.Deep.DeepCutAuto
import Derived.Deep.RegionHeld3
namespace Go.Proofs.YthahoabkehcgbaaDoor
open Go.RowKit
set_option linter.unusedVariables false
set_option maxRecDepth 8000
set_option linter.unusedSimpArgs false

set_option maxHeartbeats 2000000 in
theorem bothEnds_D {v1 v2 : Value} (s1 s2 : Bool) (x1 x2 : Int) {g1 o1 g2 o2 : Bool} {p1 p2 : Int} {L1 L2 : List Int} (f : FuncId) (hcf : ∀ (w : World) (args : Array Value), (callFunc f args).run Tryd.prog w = .ok (.enter f args) w) (w : World)
    (h1 : ∀ w1, Kept 0 0 w w1 → Calls Tryd.prog f #[.agg #[.bool s1, v1, .int .i64 x1], .int .i64 3] w1 (fun e w' => ∃ v', e = .returned (.tuple #[.agg #[.bool g1, v', .int .i64 p1], .bool o1]) ∧ Row .i64 true w1.heap.size w'.heap.size w' v' L1 ∧ Kept 0 0 w1 w'))
    (h2 : ∀ w1, Kept 0 0 w w1 → Calls Tryd.prog f #[.agg #[.bool s2, v2, .int .i64 x2], .int .i64 2] w1 (fun e w' => ∃ v', e = .returned (.tuple #[.agg #[.bool g2, v', .int .i64 p2], .bool o2]) ∧ Row .i64 true w1.heap.size w'.heap.size w' v' L2 ∧ Kept 0 0 w1 w')) :
    Calls Tryd.prog 37 #[.agg #[.bool s1, v1, .int .i64 x1], .agg #[.bool s2, v2, .int .i64 x2], .func (.func f) #[] #[]] w fun e w' => IvAns (o1 && o2) g1 p1 L1 g2 p2 L2 w e w' := by
  obtain ⟨O, hO⟩ : ∃ O, (o1 && o2) = O := ⟨_, rfl⟩
  rw [hO]
  have HO := hide hO
  clear hO
  have H1 := hide h1
  have H2 := hide h2
  clear h1 h2
  have k0 : Kept 0 0 w (((w.alloc (.cells #[.bool s1, v1, .int .i64 x1] 52)).alloc (.cells #[.bool s2, v2, .int .i64 x2] 52)).alloc (.cells #[.bool false, .slice none 0 0, .int .i64 0, .bool false, .slice none 0 0, .int .i64 0] 54)) := ((((Kept.refl 0 0 w).alloc (.cells #[.bool s1, v1, .int .i64 x1] 52)).alloc (.cells #[.bool s2, v2, .int .i64 x2] 52)).alloc (.cells #[.bool false, .slice none 0 0, .int .i64 0, .bool false, .slice none 0 0, .int .i64 0] 54))
  have bp0 : (((w.alloc (.cells #[.bool s1, v1, .int .i64 x1] 52)).alloc (.cells #[.bool s2, v2, .int .i64 x2] 52)).alloc (.cells #[.bool false, .slice none 0 0, .int .i64 0, .bool false, .slice none 0 0, .int .i64 0] 54)).cell? ⟨w.heap.size, 0, none⟩ = some (.bool s1) := old_cell _ (old_cell _ (new_cell2 _ _ _ _ _ _ (by simp) rfl))
  have bp1 : (((w.alloc (.cells #[.bool s1, v1, .int .i64 x1] 52)).alloc (.cells #[.bool s2, v2, .int .i64 x2] 52)).alloc (.cells #[.bool false, .slice none 0 0, .int .i64 0, .bool false, .slice none 0 0, .int .i64 0] 54)).cell? ⟨w.heap.size, 1, none⟩ = some (v1) := old_cell _ (old_cell _ (new_cell2 _ _ _ _ _ _ (by simp) rfl))
  have bp2 : (((w.alloc (.cells #[.bool s1, v1, .int .i64 x1] 52)).alloc (.cells #[.bool s2, v2, .int .i64 x2] 52)).alloc (.cells #[.bool false, .slice none 0 0, .int .i64 0, .bool false, .slice none 0 0, .int .i64 0] 54)).cell? ⟨w.heap.size, 2, none⟩ = some (.int .i64 x1) := old_cell _ (old_cell _ (new_cell2 _ _ _ _ _ _ (by simp) rfl))
  have bq0 : (((w.alloc (.cells #[.bool s1, v1, .int .i64 x1] 52)).alloc (.cells #[.bool s2, v2, .int .i64 x2] 52)).alloc (.cells #[.bool false, .slice none 0 0, .int .i64 0, .bool false, .slice none 0 0, .int .i64 0] 54)).cell? ⟨w.heap.size + 1, 0, none⟩ = some (.bool s2) := old_cell _ (new_cell2 _ _ _ _ _ _ (by simp) rfl)
  have bq1 : (((w.alloc (.cells #[.bool s1, v1, .int .i64 x1] 52)).alloc (.cells #[.bool s2, v2, .int .i64 x2] 52)).alloc (.cells #[.bool false, .slice none 0 0, .int .i64 0, .bool false, .slice none 0 0, .int .i64 0] 54)).cell? ⟨w.heap.size + 1, 1, none⟩ = some (v2) := old_cell _ (new_cell2 _ _ _ _ _ _ (by simp) rfl)
  have bq2 : (((w.alloc (.cells #[.bool s1, v1, .int .i64 x1] 52)).alloc (.cells #[.bool s2, v2, .int .i64 x2] 52)).alloc (.cells #[.bool false, .slice none 0 0, .int .i64 0, .bool false, .slice none 0 0, .int .i64 0] 54)).cell? ⟨w.heap.size + 1, 2, none⟩ = some (.int .i64 x2) := old_cell _ (new_cell2 _ _ _ _ _ _ (by simp) rfl)
  have R0 : (((w.alloc (.cells #[.bool s1, v1, .int .i64 x1] 52)).alloc (.cells #[.bool s2, v2, .int .i64 x2] 52)).alloc (.cells #[.bool false, .slice none 0 0, .int .i64 0, .bool false, .slice none 0 0, .int .i64 0] 54)).cell? ⟨w.heap.size + 2, 0, none⟩ = some (.bool false) := new_cell2 _ _ _ _ _ _ (by simp) rfl
  have Rf0 : (((w.alloc (.cells #[.bool s1, v1, .int .i64 x1] 52)).alloc (.cells #[.bool s2, v2, .int .i64 x2] 52)).alloc (.cells #[.bool false, .slice none 0 0, .int .i64 0, .bool false, .slice none 0 0, .int .i64 0] 54)).frozen? ⟨w.heap.size + 2, 0, none⟩ = false := new_loose2 _ _ _ _ _ (by simp)
  have R1 : (((w.alloc (.cells #[.bool s1, v1, .int .i64 x1] 52)).alloc (.cells #[.bool s2, v2, .int .i64 x2] 52)).alloc (.cells #[.bool false, .slice none 0 0, .int .i64 0, .bool false, .slice none 0 0, .int .i64 0] 54)).cell? ⟨w.heap.size + 2, 1, none⟩ = some (.slice none 0 0) := new_cell2 _ _ _ _ _ _ (by simp) rfl
  have Rf1 : (((w.alloc (.cells #[.bool s1, v1, .int .i64 x1] 52)).alloc (.cells #[.bool s2, v2, .int .i64 x2] 52)).alloc (.cells #[.bool false, .slice none 0 0, .int .i64 0, .bool false, .slice none 0 0, .int .i64 0] 54)).frozen? ⟨w.heap.size + 2, 1, none⟩ = false := new_loose2 _ _ _ _ _ (by simp)
  have R2 : (((w.alloc (.cells #[.bool s1, v1, .int .i64 x1] 52)).alloc (.cells #[.bool s2, v2, .int .i64 x2] 52)).alloc (.cells #[.bool false, .slice none 0 0, .int .i64 0, .bool false, .slice none 0 0, .int .i64 0] 54)).cell? ⟨w.heap.size + 2, 2, none⟩ = some (.int .i64 0) := new_cell2 _ _ _ _ _ _ (by simp) rfl
  have Rf2 : (((w.alloc (.cells #[.bool s1, v1, .int .i64 x1] 52)).alloc (.cells #[.bool s2, v2, .int .i64 x2] 52)).alloc (.cells #[.bool false, .slice none 0 0, .int .i64 0, .bool false, .slice none 0 0, .int .i64 0] 54)).frozen? ⟨w.heap.size + 2, 2, none⟩ = false := new_loose2 _ _ _ _ _ (by simp)
  have R3 : (((w.alloc (.cells #[.bool s1, v1, .int .i64 x1] 52)).alloc (.cells #[.bool s2, v2, .int .i64 x2] 52)).alloc (.cells #[.bool false, .slice none 0 0, .int .i64 0, .bool false, .slice none 0 0, .int .i64 0] 54)).cell? ⟨w.heap.size + 2, 3, none⟩ = some (.bool false) := new_cell2 _ _ _ _ _ _ (by simp) rfl
  have Rf3 : (((w.alloc (.cells #[.bool s1, v1, .int .i64 x1] 52)).alloc (.cells #[.bool s2, v2, .int .i64 x2] 52)).alloc (.cells #[.bool false, .slice none 0 0, .int .i64 0, .bool false, .slice none 0 0, .int .i64 0] 54)).frozen? ⟨w.heap.size + 2, 3, none⟩ = false := new_loose2 _ _ _ _ _ (by simp)
  have R4 : (((w.alloc (.cells #[.bool s1, v1, .int .i64 x1] 52)).alloc (.cells #[.bool s2, v2, .int .i64 x2] 52)).alloc (.cells #[.bool false, .slice none 0 0, .int .i64 0, .bool false, .slice none 0 0, .int .i64 0] 54)).cell? ⟨w.heap.size + 2, 4, none⟩ = some (.slice none 0 0) := new_cell2 _ _ _ _ _ _ (by simp) rfl
  have Rf4 : (((w.alloc (.cells #[.bool s1, v1, .int .i64 x1] 52)).alloc (.cells #[.bool s2, v2, .int .i64 x2] 52)).alloc (.cells #[.bool false, .slice none 0 0, .int .i64 0, .bool false, .slice none 0 0, .int .i64 0] 54)).frozen? ⟨w.heap.size + 2, 4, none⟩ = false := new_loose2 _ _ _ _ _ (by simp)
  have R5 : (((w.alloc (.cells #[.bool s1, v1, .int .i64 x1] 52)).alloc (.cells #[.bool s2, v2, .int .i64 x2] 52)).alloc (.cells #[.bool false, .slice none 0 0, .int .i64 0, .bool false, .slice none 0 0, .int .i64 0] 54)).cell? ⟨w.heap.size + 2, 5, none⟩ = some (.int .i64 0) := new_cell2 _ _ _ _ _ _ (by simp) rfl
  have Rf5 : (((w.alloc (.cells #[.bool s1, v1, .int .i64 x1] 52)).alloc (.cells #[.bool s2, v2, .int .i64 x2] 52)).alloc (.cells #[.bool false, .slice none 0 0, .int .i64 0, .bool false, .slice none 0 0, .int .i64 0] 54)).frozen? ⟨w.heap.size + 2, 5, none⟩ = false := new_loose2 _ _ _ _ _ (by simp)
  have s0 : (((w.alloc (.cells #[.bool s1, v1, .int .i64 x1] 52)).alloc (.cells #[.bool s2, v2, .int .i64 x2] 52)).alloc (.cells #[.bool false, .slice none 0 0, .int .i64 0, .bool false, .slice none 0 0, .int .i64 0] 54)).heap.size = w.heap.size + 3 := by simp
  have K := hide (k0)
  clear k0
  have S0 := hide s0
  clear s0
  go_enter Tryd.func37, Tryd.ntmps37
  go_wp2_with fail
  generalize (((w.alloc (.cells #[.bool s1, v1, .int .i64 x1] 52)).alloc (.cells #[.bool s2, v2, .int .i64 x2] 52)).alloc (.cells #[.bool false, .slice none 0 0, .int .i64 0, .bool false, .slice none 0 0, .int .i64 0] 54)) = W at *
  refine (unhide H1 _ (unhide K)).mono ?_
  rintro e w1 ⟨vL, rfl, rL, k1⟩
  replace Rf0 := k1.loose0 (World.block_lt_of_cell? _ _ R0) Rf0
  replace Rf1 := k1.loose0 (World.block_lt_of_cell? _ _ R1) Rf1
  replace Rf2 := k1.loose0 (World.block_lt_of_cell? _ _ R2) Rf2
  replace Rf3 := k1.loose0 (World.block_lt_of_cell? _ _ R3) Rf3
  replace Rf4 := k1.loose0 (World.block_lt_of_cell? _ _ R4) Rf4
  replace Rf5 := k1.loose0 (World.block_lt_of_cell? _ _ R5) Rf5
  replace bp0 := k1.cell0 bp0
  replace bp1 := k1.cell0 bp1
  replace bp2 := k1.cell0 bp2
  replace bq0 := k1.cell0 bq0
  replace bq1 := k1.cell0 bq1
  replace bq2 := k1.cell0 bq2
  replace R0 := k1.cell0 R0
  replace R1 := k1.cell0 R1
  replace R2 := k1.cell0 R2
  replace R3 := k1.cell0 R3
  replace R4 := k1.cell0 R4
  replace R5 := k1.cell0 R5
  replace K := hide ((unhide K).trans k1)
  have z2 := k1.size
  clear k1
  obtain ⟨aL, dL, hv⟩ := Row.form' rL
  subst hv
  cases o1
  · have EO : Hid (O = false) := by show _ = _; rw [← unhide HO]; rfl
    have kn := (Kept.refl 0 0 w1).alloc (.cells #[.bool g1, .slice aL L1.length dL, .int .i64 p1] 52)
    have A0 : (w1.alloc (.cells #[.bool g1, .slice aL L1.length dL, .int .i64 p1] 52)).cell? ⟨w1.heap.size, 0, none⟩ = some (.bool g1) := new_cell2 _ _ _ _ _ _ rfl rfl
    have A1 : (w1.alloc (.cells #[.bool g1, .slice aL L1.length dL, .int .i64 p1] 52)).cell? ⟨w1.heap.size, 1, none⟩ = some (.slice aL L1.length dL) := new_cell2 _ _ _ _ _ _ rfl rfl
    have A2 : (w1.alloc (.cells #[.bool g1, .slice aL L1.length dL, .int .i64 p1] 52)).cell? ⟨w1.heap.size, 2, none⟩ = some (.int .i64 p1) := new_cell2 _ _ _ _ _ _ rfl rfl
    have t3 : w1.heap.size + 1 ≤ (w1.alloc (.cells #[.bool g1, .slice aL L1.length dL, .int .i64 p1] 52)).heap.size := by simp
    replace rL := rL.kept kn (.inr (.inr (Nat.le_refl 0)))
    replace Rf0 := kn.loose0 (World.block_lt_of_cell? _ _ R0) Rf0
    replace Rf1 := kn.loose0 (World.block_lt_of_cell? _ _ R1) Rf1
    replace Rf2 := kn.loose0 (World.block_lt_of_cell? _ _ R2) Rf2
    replace Rf3 := kn.loose0 (World.block_lt_of_cell? _ _ R3) Rf3
    replace Rf4 := kn.loose0 (World.block_lt_of_cell? _ _ R4) Rf4
    replace Rf5 := kn.loose0 (World.block_lt_of_cell? _ _ R5) Rf5
    replace bp0 := kn.cell0 bp0
    replace bp1 := kn.cell0 bp1
    replace bp2 := kn.cell0 bp2
    replace bq0 := kn.cell0 bq0
    replace bq1 := kn.cell0 bq1
    replace bq2 := kn.cell0 bq2
    replace R0 := kn.cell0 R0
    replace R1 := kn.cell0 R1
    replace R2 := kn.cell0 R2
    replace R3 := kn.cell0 R3
    replace R4 := kn.cell0 R4
    replace R5 := kn.cell0 R5
    replace K := hide ((unhide K).trans kn)
    have z4 := kn.size
    clear kn
    go_wp2_with fail
    generalize w1.alloc (.cells #[.bool g1, .slice aL L1.length dL, .int .i64 p1] 52) = wm3 at *
    have K7 := hide (((((((unhide K).setNew (p := ⟨w.heap.size + 2, 0, none⟩) (by simp) (.bool false)).setNew (p := ⟨w.heap.size + 2, 1, none⟩) (by simp) (.slice none 0 0)).setNew (p := ⟨w.heap.size + 2, 2, none⟩) (by simp) (.int .i64 0)).setNew (p := ⟨w.heap.size + 2, 3, none⟩) (by simp) (.bool false)).setNew (p := ⟨w.heap.size + 2, 4, none⟩) (by simp) (.slice none 0 0)).setNew (p := ⟨w.heap.size + 2, 5, none⟩) (by simp) (.int .i64 0))
    clear K
    exact bodyPost_ret (v := .tuple #[.agg #[.bool false, .slice none 0 0, .int .i64 0, .bool false, .slice none 0 0, .int .i64 0], .bool false]) (by simp [results, Tryd.results37, go_sem, R0, R1, R2, R3, R4, R5]) rfl (by rw [unhide EO]; exact ivAns_no (unhide K7))
  have kn := (Kept.refl 0 0 w1).alloc (.cells #[.bool g1, .slice aL L1.length dL, .int .i64 p1] 52)
  have A0 : (w1.alloc (.cells #[.bool g1, .slice aL L1.length dL, .int .i64 p1] 52)).cell? ⟨w1.heap.size, 0, none⟩ = some (.bool g1) := new_cell2 _ _ _ _ _ _ rfl rfl
  have A1 : (w1.alloc (.cells #[.bool g1, .slice aL L1.length dL, .int .i64 p1] 52)).cell? ⟨w1.heap.size, 1, none⟩ = some (.slice aL L1.length dL) := new_cell2 _ _ _ _ _ _ rfl rfl
  have A2 : (w1.alloc (.cells #[.bool g1, .slice aL L1.length dL, .int .i64 p1] 52)).cell? ⟨w1.heap.size, 2, none⟩ = some (.int .i64 p1) := new_cell2 _ _ _ _ _ _ rfl rfl
  have t3 : w1.heap.size + 1 ≤ (w1.alloc (.cells #[.bool g1, .slice aL L1.length dL, .int .i64 p1] 52)).heap.size := by simp
  replace rL := rL.kept kn (.inr (.inr (Nat.le_refl 0)))
  replace Rf0 := kn.loose0 (World.block_lt_of_cell? _ _ R0) Rf0
  replace Rf1 := kn.loose0 (World.block_lt_of_cell? _ _ R1) Rf1
  replace Rf2 := kn.loose0 (World.block_lt_of_cell? _ _ R2) Rf2
  replace Rf3 := kn.loose0 (World.block_lt_of_cell? _ _ R3) Rf3
  replace Rf4 := kn.loose0 (World.block_lt_of_cell? _ _ R4) Rf4
  replace Rf5 := kn.loose0 (World.block_lt_of_cell? _ _ R5) Rf5
  replace bp0 := kn.cell0 bp0
  replace bp1 := kn.cell0 bp1
  replace bp2 := kn.cell0 bp2
  replace bq0 := kn.cell0 bq0
  replace bq1 := kn.cell0 bq1
  replace bq2 := kn.cell0 bq2
  replace R0 := kn.cell0 R0
  replace R1 := kn.cell0 R1
  replace R2 := kn.cell0 R2
  replace R3 := kn.cell0 R3
  replace R4 := kn.cell0 R4
  replace R5 := kn.cell0 R5
  replace K := hide ((unhide K).trans kn)
  have z4 := kn.size
  clear kn
  go_wp2_with fail
  generalize w1.alloc (.cells #[.bool g1, .slice aL L1.length dL, .int .i64 p1] 52) = wm3 at *
  refine (unhide H2 _ (unhide K)).mono ?_
  rintro e w5 ⟨vM, rfl, rM, k5⟩
  replace rL := rL.kept k5 (.inr (.inr (Nat.le_refl 0)))
  replace Rf0 := k5.loose0 (World.block_lt_of_cell? _ _ R0) Rf0
  replace Rf1 := k5.loose0 (World.block_lt_of_cell? _ _ R1) Rf1
  replace Rf2 := k5.loose0 (World.block_lt_of_cell? _ _ R2) Rf2
  replace Rf3 := k5.loose0 (World.block_lt_of_cell? _ _ R3) Rf3
  replace Rf4 := k5.loose0 (World.block_lt_of_cell? _ _ R4) Rf4
  replace Rf5 := k5.loose0 (World.block_lt_of_cell? _ _ R5) Rf5
  replace bp0 := k5.cell0 bp0
  replace bp1 := k5.cell0 bp1
  replace bp2 := k5.cell0 bp2
  replace bq0 := k5.cell0 bq0
  replace bq1 := k5.cell0 bq1
  replace bq2 := k5.cell0 bq2
  replace R0 := k5.cell0 R0
  replace R1 := k5.cell0 R1
  replace R2 := k5.cell0 R2
  replace R3 := k5.cell0 R3
  replace R4 := k5.cell0 R4
  replace R5 := k5.cell0 R5
  replace A0 := k5.cell0 A0
  replace A1 := k5.cell0 A1
  replace A2 := k5.cell0 A2
  replace K := hide ((unhide K).trans k5)
  have z6 := k5.size
  clear k5
  obtain ⟨aM, dM, hv⟩ := Row.form' rM
  subst hv
  cases o2
  · have EO : Hid (O = false) := by show _ = _; rw [← unhide HO]; rfl
    have kn := (Kept.refl 0 0 w5).alloc (.cells #[.bool g2, .slice aM L2.length dM, .int .i64 p2] 52)
    have B0 : (w5.alloc (.cells #[.bool g2, .slice aM L2.length dM, .int .i64 p2] 52)).cell? ⟨w5.heap.size, 0, none⟩ = some (.bool g2) := new_cell2 _ _ _ _ _ _ rfl rfl
    have B1 : (w5.alloc (.cells #[.bool g2, .slice aM L2.length dM, .int .i64 p2] 52)).cell? ⟨w5.heap.size, 1, none⟩ = some (.slice aM L2.length dM) := new_cell2 _ _ _ _ _ _ rfl rfl
    have B2 : (w5.alloc (.cells #[.bool g2, .slice aM L2.length dM, .int .i64 p2] 52)).cell? ⟨w5.heap.size, 2, none⟩ = some (.int .i64 p2) := new_cell2 _ _ _ _ _ _ rfl rfl
    have t7 : w5.heap.size + 1 ≤ (w5.alloc (.cells #[.bool g2, .slice aM L2.length dM, .int .i64 p2] 52)).heap.size := by simp
    replace rL := rL.kept kn (.inr (.inr (Nat.le_refl 0)))
    replace rM := rM.kept kn (.inr (.inr (Nat.le_refl 0)))
    replace Rf0 := kn.loose0 (World.block_lt_of_cell? _ _ R0) Rf0
    replace Rf1 := kn.loose0 (World.block_lt_of_cell? _ _ R1) Rf1
    replace Rf2 := kn.loose0 (World.block_lt_of_cell? _ _ R2) Rf2
    replace Rf3 := kn.loose0 (World.block_lt_of_cell? _ _ R3) Rf3
    replace Rf4 := kn.loose0 (World.block_lt_of_cell? _ _ R4) Rf4
    replace Rf5 := kn.loose0 (World.block_lt_of_cell? _ _ R5) Rf5
    replace bp0 := kn.cell0 bp0
    replace bp1 := kn.cell0 bp1
    replace bp2 := kn.cell0 bp2
    replace bq0 := kn.cell0 bq0
    replace bq1 := kn.cell0 bq1
    replace bq2 := kn.cell0 bq2
    replace R0 := kn.cell0 R0
    replace R1 := kn.cell0 R1
    replace R2 := kn.cell0 R2
    replace R3 := kn.cell0 R3
    replace R4 := kn.cell0 R4
    replace R5 := kn.cell0 R5
    replace A0 := kn.cell0 A0
    replace A1 := kn.cell0 A1
    replace A2 := kn.cell0 A2
    replace K := hide ((unhide K).trans kn)
    have z8 := kn.size
    clear kn
    go_wp2_with fail
    generalize w5.alloc (.cells #[.bool g2, .slice aM L2.length dM, .int .i64 p2] 52) = wm7 at *
    have K7 := hide (((((((unhide K).setNew (p := ⟨w.heap.size + 2, 0, none⟩) (by simp) (.bool false)).setNew (p := ⟨w.heap.size + 2, 1, none⟩) (by simp) (.slice none 0 0)).setNew (p := ⟨w.heap.size + 2, 2, none⟩) (by simp) (.int .i64 0)).setNew (p := ⟨w.heap.size + 2, 3, none⟩) (by simp) (.bool false)).setNew (p := ⟨w.heap.size + 2, 4, none⟩) (by simp) (.slice none 0 0)).setNew (p := ⟨w.heap.size + 2, 5, none⟩) (by simp) (.int .i64 0))
    clear K
    exact bodyPost_ret (v := .tuple #[.agg #[.bool false, .slice none 0 0, .int .i64 0, .bool false, .slice none 0 0, .int .i64 0], .bool false]) (by simp [results, Tryd.results37, go_sem, R0, R1, R2, R3, R4, R5]) rfl (by rw [unhide EO]; exact ivAns_no (unhide K7))
  have EO : Hid (O = true) := by show _ = _; rw [← unhide HO]; rfl
  have kn := (Kept.refl 0 0 w5).alloc (.cells #[.bool g2, .slice aM L2.length dM, .int .i64 p2] 52)
  have B0 : (w5.alloc (.cells #[.bool g2, .slice aM L2.length dM, .int .i64 p2] 52)).cell? ⟨w5.heap.size, 0, none⟩ = some (.bool g2) := new_cell2 _ _ _ _ _ _ rfl rfl
  have B1 : (w5.alloc (.cells #[.bool g2, .slice aM L2.length dM, .int .i64 p2] 52)).cell? ⟨w5.heap.size, 1, none⟩ = some (.slice aM L2.length dM) := new_cell2 _ _ _ _ _ _ rfl rfl
  have B2 : (w5.alloc (.cells #[.bool g2, .slice aM L2.length dM, .int .i64 p2] 52)).cell? ⟨w5.heap.size, 2, none⟩ = some (.int .i64 p2) := new_cell2 _ _ _ _ _ _ rfl rfl
  have t7 : w5.heap.size + 1 ≤ (w5.alloc (.cells #[.bool g2, .slice aM L2.length dM, .int .i64 p2] 52)).heap.size := by simp
  replace rL := rL.kept kn (.inr (.inr (Nat.le_refl 0)))
  replace rM := rM.kept kn (.inr (.inr (Nat.le_refl 0)))
  replace Rf0 := kn.loose0 (World.block_lt_of_cell? _ _ R0) Rf0
  replace Rf1 := kn.loose0 (World.block_lt_of_cell? _ _ R1) Rf1
  replace Rf2 := kn.loose0 (World.block_lt_of_cell? _ _ R2) Rf2
  replace Rf3 := kn.loose0 (World.block_lt_of_cell? _ _ R3) Rf3
  replace Rf4 := kn.loose0 (World.block_lt_of_cell? _ _ R4) Rf4
  replace Rf5 := kn.loose0 (World.block_lt_of_cell? _ _ R5) Rf5
  replace bp0 := kn.cell0 bp0
  replace bp1 := kn.cell0 bp1
  replace bp2 := kn.cell0 bp2
  replace bq0 := kn.cell0 bq0
  replace bq1 := kn.cell0 bq1
  replace bq2 := kn.cell0 bq2
  replace R0 := kn.cell0 R0
  replace R1 := kn.cell0 R1
  replace R2 := kn.cell0 R2
  replace R3 := kn.cell0 R3
  replace R4 := kn.cell0 R4
  replace R5 := kn.cell0 R5
  replace A0 := kn.cell0 A0
  replace A1 := kn.cell0 A1
  replace A2 := kn.cell0 A2
  replace K := hide ((unhide K).trans kn)
  have z8 := kn.size
  clear kn
  go_wp2_with fail
  generalize w5.alloc (.cells #[.bool g2, .slice aM L2.length dM, .int .i64 p2] 52) = wm7 at *
  have K7 := hide (((((((unhide K).setNew (p := ⟨w.heap.size + 2, 0, none⟩) (by simp) (.bool g1)).setNew (p := ⟨w.heap.size + 2, 1, none⟩) (by simp) (.slice aL L1.length dL)).setNew (p := ⟨w.heap.size + 2, 2, none⟩) (by simp) (.int .i64 p1)).setNew (p := ⟨w.heap.size + 2, 3, none⟩) (by simp) (.bool g2)).setNew (p := ⟨w.heap.size + 2, 4, none⟩) (by simp) (.slice aM L2.length dM)).setNew (p := ⟨w.heap.size + 2, 5, none⟩) (by simp) (.int .i64 p2))
  have RL := hide ((((((rL.set_other (p := ⟨w.heap.size + 2, 0, none⟩) (.inl (by have := unhide S0; dsimp only; omega)) (.bool g1)).set_other (p := ⟨w.heap.size + 2, 1, none⟩) (.inl (by have := unhide S0; dsimp only; omega)) (.slice aL L1.length dL)).set_other (p := ⟨w.heap.size + 2, 2, none⟩) (.inl (by have := unhide S0; dsimp only; omega)) (.int .i64 p1)).set_other (p := ⟨w.heap.size + 2, 3, none⟩) (.inl (by have := unhide S0; dsimp only; omega)) (.bool g2)).set_other (p := ⟨w.heap.size + 2, 4, none⟩) (.inl (by have := unhide S0; dsimp only; omega)) (.slice aM L2.length dM)).set_other (p := ⟨w.heap.size + 2, 5, none⟩) (.inl (by have := unhide S0; dsimp only; omega)) (.int .i64 p2))
  have RM := hide ((((((rM.set_other (p := ⟨w.heap.size + 2, 0, none⟩) (.inl (by have := unhide S0; dsimp only; omega)) (.bool g1)).set_other (p := ⟨w.heap.size + 2, 1, none⟩) (.inl (by have := unhide S0; dsimp only; omega)) (.slice aL L1.length dL)).set_other (p := ⟨w.heap.size + 2, 2, none⟩) (.inl (by have := unhide S0; dsimp only; omega)) (.int .i64 p1)).set_other (p := ⟨w.heap.size + 2, 3, none⟩) (.inl (by have := unhide S0; dsimp only; omega)) (.bool g2)).set_other (p := ⟨w.heap.size + 2, 4, none⟩) (.inl (by have := unhide S0; dsimp only; omega)) (.slice aM L2.length dM)).set_other (p := ⟨w.heap.size + 2, 5, none⟩) (.inl (by have := unhide S0; dsimp only; omega)) (.int .i64 p2))
  clear K
  have sS0 := unhide S0
  exact bodyPost_ret (v := .tuple #[.agg #[.bool g1, .slice aL L1.length dL, .int .i64 p1, .bool g2, .slice aM L2.length dM, .int .i64 p2], .bool true]) (by simp [results, Tryd.results37, go_sem, R0, R1, R2, R3, R4, R5]) rfl (by rw [unhide EO]; exact ivAns_yes (mid := wm3.heap.size) ((unhide RL).wider (by omega) (by omega)) (unhide RM).tight (by omega) (by simp only [size_set]; omega) (unhide K7))

end Go.Proofs.YthahoabkehcgbaaDoor
