/-
  Intervals of the program: bothEnds over pairs.
-/
import Derived.Test.YtpognolidbgkkaaDoorIvN
import Derived.Test.YtpognolidbgkkaaDoorBJ
import Derived.Deep.DeepCutAuto
import Derived.Deep.RegionHeld3
namespace Go.Proofs.YtpognolidbgkkaaDoor
open Go.RowKit
set_option linter.unusedVariables false
set_option maxRecDepth 8000
set_option linter.unusedSimpArgs false

set_option maxHeartbeats 2000000 in
theorem bothEnds_P {v1 v2 v3 v4 : Value} (s1 s2 s3 s4 : Bool) (x1 x2 x3 x4 : Int) {g1 o1 g2 o2 : Bool} {p1 p2 : Int} {L1 L2 : List Int} (f : FuncId) (hcf : ∀ (w : World) (args : Array Value), (callFunc f args).run Tryd.prog w = .ok (.enter f args) w) (w : World)
    (h1 : ∀ w1, Kept 0 0 w w1 → Calls Tryd.prog f #[.agg #[.bool s1, v1, .int .i64 x1, .bool s3, v3, .int .i64 x3], .int .i64 3] w1 (fun e w' => ∃ v', e = .returned (.tuple #[.agg #[.bool g1, v', .int .i64 p1], .bool o1]) ∧ Row .i64 true w1.heap.size w'.heap.size w' v' L1 ∧ Kept 0 0 w1 w'))
    (h2 : ∀ w1, Kept 0 0 w w1 → Calls Tryd.prog f #[.agg #[.bool s2, v2, .int .i64 x2, .bool s4, v4, .int .i64 x4], .int .i64 2] w1 (fun e w' => ∃ v', e = .returned (.tuple #[.agg #[.bool g2, v', .int .i64 p2], .bool o2]) ∧ Row .i64 true w1.heap.size w'.heap.size w' v' L2 ∧ Kept 0 0 w1 w')) :
    Calls Tryd.prog 19 #[.agg #[.bool s1, v1, .int .i64 x1, .bool s3, v3, .int .i64 x3], .agg #[.bool s2, v2, .int .i64 x2, .bool s4, v4, .int .i64 x4], .func (.func f) #[] #[]] w fun e w' => IvAns (o1 && o2) g1 p1 L1 g2 p2 L2 w e w' := by
  obtain ⟨O, hO⟩ : ∃ O, (o1 && o2) = O := ⟨_, rfl⟩
  rw [hO]
  have HO := hide hO
  clear hO
  have H1 := hide h1
  have H2 := hide h2
  clear h1 h2
  obtain ⟨Wn, hn0⟩ : ∃ wz, wz = (((w.alloc (.cells #[.bool s1, v1, .int .i64 x1, .bool s3, v3, .int .i64 x3] 51)).alloc (.cells #[.bool s2, v2, .int .i64 x2, .bool s4, v4, .int .i64 x4] 51)).alloc (.cells #[.bool false, .slice none 0 0, .int .i64 0, .bool false, .slice none 0 0, .int .i64 0] 38)) := ⟨_, rfl⟩
  have k0 : Kept 0 0 w Wn := by rw [hn0]; exact ((((Kept.refl 0 0 w).alloc _).alloc _).alloc _)
  have bp0 : Wn.cell? ⟨w.heap.size, 0, none⟩ = some (.bool s1) := by rw [hn0]; exact old_cell _ (old_cell _ (new_cell2 _ _ _ _ _ _ (by simp) rfl))
  have bp1 : Wn.cell? ⟨w.heap.size, 1, none⟩ = some (v1) := by rw [hn0]; exact old_cell _ (old_cell _ (new_cell2 _ _ _ _ _ _ (by simp) rfl))
  have bp2 : Wn.cell? ⟨w.heap.size, 2, none⟩ = some (.int .i64 x1) := by rw [hn0]; exact old_cell _ (old_cell _ (new_cell2 _ _ _ _ _ _ (by simp) rfl))
  have bp3 : Wn.cell? ⟨w.heap.size, 3, none⟩ = some (.bool s3) := by rw [hn0]; exact old_cell _ (old_cell _ (new_cell2 _ _ _ _ _ _ (by simp) rfl))
  have bp4 : Wn.cell? ⟨w.heap.size, 4, none⟩ = some (v3) := by rw [hn0]; exact old_cell _ (old_cell _ (new_cell2 _ _ _ _ _ _ (by simp) rfl))
  have bp5 : Wn.cell? ⟨w.heap.size, 5, none⟩ = some (.int .i64 x3) := by rw [hn0]; exact old_cell _ (old_cell _ (new_cell2 _ _ _ _ _ _ (by simp) rfl))
  have bq0 : Wn.cell? ⟨w.heap.size + 1, 0, none⟩ = some (.bool s2) := by rw [hn0]; exact old_cell _ (new_cell2 _ _ _ _ _ _ (by simp) rfl)
  have bq1 : Wn.cell? ⟨w.heap.size + 1, 1, none⟩ = some (v2) := by rw [hn0]; exact old_cell _ (new_cell2 _ _ _ _ _ _ (by simp) rfl)
  have bq2 : Wn.cell? ⟨w.heap.size + 1, 2, none⟩ = some (.int .i64 x2) := by rw [hn0]; exact old_cell _ (new_cell2 _ _ _ _ _ _ (by simp) rfl)
  have bq3 : Wn.cell? ⟨w.heap.size + 1, 3, none⟩ = some (.bool s4) := by rw [hn0]; exact old_cell _ (new_cell2 _ _ _ _ _ _ (by simp) rfl)
  have bq4 : Wn.cell? ⟨w.heap.size + 1, 4, none⟩ = some (v4) := by rw [hn0]; exact old_cell _ (new_cell2 _ _ _ _ _ _ (by simp) rfl)
  have bq5 : Wn.cell? ⟨w.heap.size + 1, 5, none⟩ = some (.int .i64 x4) := by rw [hn0]; exact old_cell _ (new_cell2 _ _ _ _ _ _ (by simp) rfl)
  have R0 : Wn.cell? ⟨w.heap.size + 2, 0, none⟩ = some (.bool false) := by rw [hn0]; exact new_cell2 _ _ _ _ _ _ (by simp) rfl
  have Ba : Wn.frozen? ⟨w.heap.size + 2, 0, none⟩ = false := by rw [hn0]; exact new_loose2 _ _ _ _ _ (by simp)
  have R1 : Wn.cell? ⟨w.heap.size + 2, 1, none⟩ = some (.slice none 0 0) := by rw [hn0]; exact new_cell2 _ _ _ _ _ _ (by simp) rfl
  have Bb : Wn.frozen? ⟨w.heap.size + 2, 1, none⟩ = false := by rw [hn0]; exact new_loose2 _ _ _ _ _ (by simp)
  have R2 : Wn.cell? ⟨w.heap.size + 2, 2, none⟩ = some (.int .i64 0) := by rw [hn0]; exact new_cell2 _ _ _ _ _ _ (by simp) rfl
  have Bc : Wn.frozen? ⟨w.heap.size + 2, 2, none⟩ = false := by rw [hn0]; exact new_loose2 _ _ _ _ _ (by simp)
  have R3 : Wn.cell? ⟨w.heap.size + 2, 3, none⟩ = some (.bool false) := by rw [hn0]; exact new_cell2 _ _ _ _ _ _ (by simp) rfl
  have Bd : Wn.frozen? ⟨w.heap.size + 2, 3, none⟩ = false := by rw [hn0]; exact new_loose2 _ _ _ _ _ (by simp)
  have R4 : Wn.cell? ⟨w.heap.size + 2, 4, none⟩ = some (.slice none 0 0) := by rw [hn0]; exact new_cell2 _ _ _ _ _ _ (by simp) rfl
  have Be : Wn.frozen? ⟨w.heap.size + 2, 4, none⟩ = false := by rw [hn0]; exact new_loose2 _ _ _ _ _ (by simp)
  have R5 : Wn.cell? ⟨w.heap.size + 2, 5, none⟩ = some (.int .i64 0) := by rw [hn0]; exact new_cell2 _ _ _ _ _ _ (by simp) rfl
  have Bf : Wn.frozen? ⟨w.heap.size + 2, 5, none⟩ = false := by rw [hn0]; exact new_loose2 _ _ _ _ _ (by simp)
  have s0 : Wn.heap.size = w.heap.size + 3 := by rw [hn0]; exact by simp
  subst hn0
  have K := hide (k0)
  clear k0
  have S0 := hide s0
  clear s0
  go_enter Tryd.func19, Tryd.ntmps19
  go_wp2_with fail
  generalize (((w.alloc (.cells #[.bool s1, v1, .int .i64 x1, .bool s3, v3, .int .i64 x3] 51)).alloc (.cells #[.bool s2, v2, .int .i64 x2, .bool s4, v4, .int .i64 x4] 51)).alloc (.cells #[.bool false, .slice none 0 0, .int .i64 0, .bool false, .slice none 0 0, .int .i64 0] 38)) = W at *
  refine (unhide H1 _ (unhide K)).mono ?_
  rintro e w1 ⟨vL, rfl, rL, k1⟩
  replace Ba := k1.loose0 (zbl R0) Ba
  replace Bb := k1.loose0 (zbl R1) Bb
  replace Bc := k1.loose0 (zbl R2) Bc
  replace Bd := k1.loose0 (zbl R3) Bd
  replace Be := k1.loose0 (zbl R4) Be
  replace Bf := k1.loose0 (zbl R5) Bf
  revert bp0 bp1 bp2 bp3 bp4 bp5 bq0 bq1 bq2 bq3 bq4 bq5; refine k1.m12 ?_; intro bp0 bp1 bp2 bp3 bp4 bp5 bq0 bq1 bq2 bq3 bq4 bq5
  revert R0 R1 R2 R3 R4 R5; refine k1.m6 ?_; intro R0 R1 R2 R3 R4 R5
  replace K := hide ((unhide K).trans k1)
  have z2 := k1.size
  clear k1
  obtain ⟨aL, dL, hv⟩ := Row.form' rL
  subst hv
  cases o1
  ·have EO : Hid (O = false) := by show _ = _; rw [← unhide HO]; rfl
   have kn := (Kept.refl 0 0 w1).alloc (.cells #[.bool g1, .slice aL L1.length dL, .int .i64 p1] 36)
   have A0 : (w1.alloc (.cells #[.bool g1, .slice aL L1.length dL, .int .i64 p1] 36)).cell? ⟨w1.heap.size, 0, none⟩ = some (.bool g1) := new_cell2 _ _ _ _ _ _ rfl rfl
   have A1 : (w1.alloc (.cells #[.bool g1, .slice aL L1.length dL, .int .i64 p1] 36)).cell? ⟨w1.heap.size, 1, none⟩ = some (.slice aL L1.length dL) := new_cell2 _ _ _ _ _ _ rfl rfl
   have A2 : (w1.alloc (.cells #[.bool g1, .slice aL L1.length dL, .int .i64 p1] 36)).cell? ⟨w1.heap.size, 2, none⟩ = some (.int .i64 p1) := new_cell2 _ _ _ _ _ _ rfl rfl
   have t3 : w1.heap.size + 1 ≤ (w1.alloc (.cells #[.bool g1, .slice aL L1.length dL, .int .i64 p1] 36)).heap.size := by simp
   replace rL := rL.kp kn
   replace Ba := kn.loose0 (zbl R0) Ba
   replace Bb := kn.loose0 (zbl R1) Bb
   replace Bc := kn.loose0 (zbl R2) Bc
   replace Bd := kn.loose0 (zbl R3) Bd
   replace Be := kn.loose0 (zbl R4) Be
   replace Bf := kn.loose0 (zbl R5) Bf
   revert bp0 bp1 bp2 bp3 bp4 bp5 bq0 bq1 bq2 bq3 bq4 bq5; refine kn.m12 ?_; intro bp0 bp1 bp2 bp3 bp4 bp5 bq0 bq1 bq2 bq3 bq4 bq5
   revert R0 R1 R2 R3 R4 R5; refine kn.m6 ?_; intro R0 R1 R2 R3 R4 R5
   replace K := hide ((unhide K).trans kn)
   have z4 := kn.size
   clear kn
   go_wp2_with fail
   generalize w1.alloc (.cells #[.bool g1, .slice aL L1.length dL, .int .i64 p1] 36) = wm3 at *
   have K7 := hide (((((((unhide K).setNew (p := ⟨w.heap.size + 2, 0, none⟩) (by simp) (.bool false)).setNew (p := ⟨w.heap.size + 2, 1, none⟩) (by simp) (.slice none 0 0)).setNew (p := ⟨w.heap.size + 2, 2, none⟩) (by simp) (.int .i64 0)).setNew (p := ⟨w.heap.size + 2, 3, none⟩) (by simp) (.bool false)).setNew (p := ⟨w.heap.size + 2, 4, none⟩) (by simp) (.slice none 0 0)).setNew (p := ⟨w.heap.size + 2, 5, none⟩) (by simp) (.int .i64 0))
   clear K
   exact bodyPost_ret (v := .tuple #[.agg #[.bool false, .slice none 0 0, .int .i64 0, .bool false, .slice none 0 0, .int .i64 0], .bool false]) (by simp [results, Tryd.results19, go_sem, R0, R1, R2, R3, R4, R5]) rfl (by rw [unhide EO]; exact ivAns_no (unhide K7))
  have kn := (Kept.refl 0 0 w1).alloc (.cells #[.bool g1, .slice aL L1.length dL, .int .i64 p1] 36)
  have A0 : (w1.alloc (.cells #[.bool g1, .slice aL L1.length dL, .int .i64 p1] 36)).cell? ⟨w1.heap.size, 0, none⟩ = some (.bool g1) := new_cell2 _ _ _ _ _ _ rfl rfl
  have A1 : (w1.alloc (.cells #[.bool g1, .slice aL L1.length dL, .int .i64 p1] 36)).cell? ⟨w1.heap.size, 1, none⟩ = some (.slice aL L1.length dL) := new_cell2 _ _ _ _ _ _ rfl rfl
  have A2 : (w1.alloc (.cells #[.bool g1, .slice aL L1.length dL, .int .i64 p1] 36)).cell? ⟨w1.heap.size, 2, none⟩ = some (.int .i64 p1) := new_cell2 _ _ _ _ _ _ rfl rfl
  have t3 : w1.heap.size + 1 ≤ (w1.alloc (.cells #[.bool g1, .slice aL L1.length dL, .int .i64 p1] 36)).heap.size := by simp
  replace rL := rL.kp kn
  replace Ba := kn.loose0 (zbl R0) Ba
  replace Bb := kn.loose0 (zbl R1) Bb
  replace Bc := kn.loose0 (zbl R2) Bc
  replace Bd := kn.loose0 (zbl R3) Bd
  replace Be := kn.loose0 (zbl R4) Be
  replace Bf := kn.loose0 (zbl R5) Bf
  replace bp0 := kn.cell0 bp0
  replace bp1 := kn.cell0 bp1
  replace bp2 := kn.cell0 bp2
  replace bp3 := kn.cell0 bp3
  replace bp4 := kn.cell0 bp4
  replace bp5 := kn.cell0 bp5
  replace bq0 := kn.cell0 bq0
  replace bq1 := kn.cell0 bq1
  replace bq2 := kn.cell0 bq2
  replace bq3 := kn.cell0 bq3
  replace bq4 := kn.cell0 bq4
  replace bq5 := kn.cell0 bq5
  replace R0 := kn.cell0 R0
  replace R1 := kn.cell0 R1
  replace R2 := kn.cell0 R2
  replace R3 := kn.cell0 R3
  replace R4 := kn.cell0 R4
  replace R5 := kn.cell0 R5
  replace K := hide ((unhide K).trans kn)
  have z4 := kn.size
  clear kn
  go_wp2_with fail
  generalize w1.alloc (.cells #[.bool g1, .slice aL L1.length dL, .int .i64 p1] 36) = wm3 at *
  refine (unhide H2 _ (unhide K)).mono ?_
  rintro e w5 ⟨vM, rfl, rM, k5⟩
  replace rL := rL.kp k5
  replace Ba := k5.loose0 (zbl R0) Ba
  replace Bb := k5.loose0 (zbl R1) Bb
  replace Bc := k5.loose0 (zbl R2) Bc
  replace Bd := k5.loose0 (zbl R3) Bd
  replace Be := k5.loose0 (zbl R4) Be
  replace Bf := k5.loose0 (zbl R5) Bf
  revert bp0 bp1 bp2 bp3 bp4 bp5 bq0 bq1 bq2 bq3 bq4 bq5; refine k5.m12 ?_; intro bp0 bp1 bp2 bp3 bp4 bp5 bq0 bq1 bq2 bq3 bq4 bq5
  replace R0 := k5.cell0 R0
  replace R1 := k5.cell0 R1
  replace R2 := k5.cell0 R2
  replace R3 := k5.cell0 R3
  replace R4 := k5.cell0 R4
  replace R5 := k5.cell0 R5
  replace A0 := k5.cell0 A0
  replace A1 := k5.cell0 A1
  replace A2 := k5.cell0 A2
  replace K := hide ((unhide K).trans k5)
  have z6 := k5.size
  clear k5
  obtain ⟨aM, dM, hv⟩ := Row.form' rM
  subst hv
  cases o2
  ·have EO : Hid (O = false) := by show _ = _; rw [← unhide HO]; rfl
   have kn := (Kept.refl 0 0 w5).alloc (.cells #[.bool g2, .slice aM L2.length dM, .int .i64 p2] 36)
   have B0 : (w5.alloc (.cells #[.bool g2, .slice aM L2.length dM, .int .i64 p2] 36)).cell? ⟨w5.heap.size, 0, none⟩ = some (.bool g2) := new_cell2 _ _ _ _ _ _ rfl rfl
   have B1 : (w5.alloc (.cells #[.bool g2, .slice aM L2.length dM, .int .i64 p2] 36)).cell? ⟨w5.heap.size, 1, none⟩ = some (.slice aM L2.length dM) := new_cell2 _ _ _ _ _ _ rfl rfl
   have B2 : (w5.alloc (.cells #[.bool g2, .slice aM L2.length dM, .int .i64 p2] 36)).cell? ⟨w5.heap.size, 2, none⟩ = some (.int .i64 p2) := new_cell2 _ _ _ _ _ _ rfl rfl
   have t7 : w5.heap.size + 1 ≤ (w5.alloc (.cells #[.bool g2, .slice aM L2.length dM, .int .i64 p2] 36)).heap.size := by simp
   replace rL := rL.kp kn
   replace rM := rM.kp kn
   replace Ba := kn.loose0 (zbl R0) Ba
   replace Bb := kn.loose0 (zbl R1) Bb
   replace Bc := kn.loose0 (zbl R2) Bc
   replace Bd := kn.loose0 (zbl R3) Bd
   replace Be := kn.loose0 (zbl R4) Be
   replace Bf := kn.loose0 (zbl R5) Bf
   revert bp0 bp1 bp2 bp3 bp4 bp5 bq0 bq1 bq2 bq3 bq4 bq5; refine kn.m12 ?_; intro bp0 bp1 bp2 bp3 bp4 bp5 bq0 bq1 bq2 bq3 bq4 bq5
   revert R0 R1 R2 R3 R4 R5 A0 A1 A2; refine kn.m9 ?_; intro R0 R1 R2 R3 R4 R5 A0 A1 A2
   replace K := hide ((unhide K).trans kn)
   have z8 := kn.size
   clear kn
   go_wp2_with fail
   generalize w5.alloc (.cells #[.bool g2, .slice aM L2.length dM, .int .i64 p2] 36) = wm7 at *
   have K7 := hide (((((((unhide K).setNew (p := ⟨w.heap.size + 2, 0, none⟩) (by simp) (.bool false)).setNew (p := ⟨w.heap.size + 2, 1, none⟩) (by simp) (.slice none 0 0)).setNew (p := ⟨w.heap.size + 2, 2, none⟩) (by simp) (.int .i64 0)).setNew (p := ⟨w.heap.size + 2, 3, none⟩) (by simp) (.bool false)).setNew (p := ⟨w.heap.size + 2, 4, none⟩) (by simp) (.slice none 0 0)).setNew (p := ⟨w.heap.size + 2, 5, none⟩) (by simp) (.int .i64 0))
   clear K
   exact bodyPost_ret (v := .tuple #[.agg #[.bool false, .slice none 0 0, .int .i64 0, .bool false, .slice none 0 0, .int .i64 0], .bool false]) (by simp [results, Tryd.results19, go_sem, R0, R1, R2, R3, R4, R5]) rfl (by rw [unhide EO]; exact ivAns_no (unhide K7))
  have EO : Hid (O = true) := by show _ = _; rw [← unhide HO]; rfl
  have kn := (Kept.refl 0 0 w5).alloc (.cells #[.bool g2, .slice aM L2.length dM, .int .i64 p2] 36)
  have B0 : (w5.alloc (.cells #[.bool g2, .slice aM L2.length dM, .int .i64 p2] 36)).cell? ⟨w5.heap.size, 0, none⟩ = some (.bool g2) := new_cell2 _ _ _ _ _ _ rfl rfl
  have B1 : (w5.alloc (.cells #[.bool g2, .slice aM L2.length dM, .int .i64 p2] 36)).cell? ⟨w5.heap.size, 1, none⟩ = some (.slice aM L2.length dM) := new_cell2 _ _ _ _ _ _ rfl rfl
  have B2 : (w5.alloc (.cells #[.bool g2, .slice aM L2.length dM, .int .i64 p2] 36)).cell? ⟨w5.heap.size, 2, none⟩ = some (.int .i64 p2) := new_cell2 _ _ _ _ _ _ rfl rfl
  have t7 : w5.heap.size + 1 ≤ (w5.alloc (.cells #[.bool g2, .slice aM L2.length dM, .int .i64 p2] 36)).heap.size := by simp
  replace rL := rL.kp kn
  replace rM := rM.kp kn
  replace Ba := kn.loose0 (zbl R0) Ba
  replace Bb := kn.loose0 (zbl R1) Bb
  replace Bc := kn.loose0 (zbl R2) Bc
  replace Bd := kn.loose0 (zbl R3) Bd
  replace Be := kn.loose0 (zbl R4) Be
  replace Bf := kn.loose0 (zbl R5) Bf
  replace bp0 := kn.cell0 bp0
  replace bp1 := kn.cell0 bp1
  replace bp2 := kn.cell0 bp2
  replace bp3 := kn.cell0 bp3
  replace bp4 := kn.cell0 bp4
  replace bp5 := kn.cell0 bp5
  replace bq0 := kn.cell0 bq0
  replace bq1 := kn.cell0 bq1
  replace bq2 := kn.cell0 bq2
  replace bq3 := kn.cell0 bq3
  replace bq4 := kn.cell0 bq4
  replace bq5 := kn.cell0 bq5
  replace R0 := kn.cell0 R0
  replace R1 := kn.cell0 R1
  replace R2 := kn.cell0 R2
  replace R3 := kn.cell0 R3
  replace R4 := kn.cell0 R4
  replace R5 := kn.cell0 R5
  replace A0 := kn.cell0 A0
  replace A1 := kn.cell0 A1
  replace A2 := kn.cell0 A2
  replace K := hide ((unhide K).trans kn)
  have z8 := kn.size
  clear kn
  go_wp2_with fail
  generalize w5.alloc (.cells #[.bool g2, .slice aM L2.length dM, .int .i64 p2] 36) = wm7 at *
  have K7 := hide (((((((unhide K).setNew (p := ⟨w.heap.size + 2, 0, none⟩) (by simp) (.bool g1)).setNew (p := ⟨w.heap.size + 2, 1, none⟩) (by simp) (.slice aL L1.length dL)).setNew (p := ⟨w.heap.size + 2, 2, none⟩) (by simp) (.int .i64 p1)).setNew (p := ⟨w.heap.size + 2, 3, none⟩) (by simp) (.bool g2)).setNew (p := ⟨w.heap.size + 2, 4, none⟩) (by simp) (.slice aM L2.length dM)).setNew (p := ⟨w.heap.size + 2, 5, none⟩) (by simp) (.int .i64 p2))
  have RL := hide ((((((rL.set_other (p := ⟨w.heap.size + 2, 0, none⟩) (.inl (by have := unhide S0; dsimp only; omega)) (.bool g1)).set_other (p := ⟨w.heap.size + 2, 1, none⟩) (.inl (by have := unhide S0; dsimp only; omega)) (.slice aL L1.length dL)).set_other (p := ⟨w.heap.size + 2, 2, none⟩) (.inl (by have := unhide S0; dsimp only; omega)) (.int .i64 p1)).set_other (p := ⟨w.heap.size + 2, 3, none⟩) (.inl (by have := unhide S0; dsimp only; omega)) (.bool g2)).set_other (p := ⟨w.heap.size + 2, 4, none⟩) (.inl (by have := unhide S0; dsimp only; omega)) (.slice aM L2.length dM)).set_other (p := ⟨w.heap.size + 2, 5, none⟩) (.inl (by have := unhide S0; dsimp only; omega)) (.int .i64 p2))
  have RM := hide ((((((rM.set_other (p := ⟨w.heap.size + 2, 0, none⟩) (.inl (by have := unhide S0; dsimp only; omega)) (.bool g1)).set_other (p := ⟨w.heap.size + 2, 1, none⟩) (.inl (by have := unhide S0; dsimp only; omega)) (.slice aL L1.length dL)).set_other (p := ⟨w.heap.size + 2, 2, none⟩) (.inl (by have := unhide S0; dsimp only; omega)) (.int .i64 p1)).set_other (p := ⟨w.heap.size + 2, 3, none⟩) (.inl (by have := unhide S0; dsimp only; omega)) (.bool g2)).set_other (p := ⟨w.heap.size + 2, 4, none⟩) (.inl (by have := unhide S0; dsimp only; omega)) (.slice aM L2.length dM)).set_other (p := ⟨w.heap.size + 2, 5, none⟩) (.inl (by have := unhide S0; dsimp only; omega)) (.int .i64 p2))
  clear K
  have sS0 := unhide S0
  exact bodyPost_ret (v := .tuple #[.agg #[.bool g1, .slice aL L1.length dL, .int .i64 p1, .bool g2, .slice aM L2.length dM, .int .i64 p2], .bool true]) (by simp [results, Tryd.results19, go_sem, R0, R1, R2, R3, R4, R5]) rfl (by rw [unhide EO]; exact ivAns_yes (mid := wm3.heap.size) ((unhide RL).wider (by omega) (by omega)) (unhide RM).tight (by omega) (by simp only [size_set]; omega) (unhide K7))

end Go.Proofs.YtpognolidbgkkaaDoor

