/-
  Intervals of the program: IvMeet, IvJoin.
-/
import Derived.Test.YtgdgkncielliaaaDoorIvM
import Derived.Test.YtgdgkncielliaaaDoorIvX
import Derived.Test.YtgdgkncielliaaaDoorIv3o
import Derived.Test.YtgdgkncielliaaaDoorBJ
import Derived.Deep.DeepCutAuto
import Derived.Deep.RegionHeld3
namespace Go.Proofs.YtgdgkncielliaaaDoor
open Go.RowKit
set_option linter.unusedVariables false
set_option maxRecDepth 8000
set_option linter.unusedSimpArgs false

set_option maxHeartbeats 4000000 in
theorem ivmeet_impl {b1 b2 b3 b4 : Bool} {w1l w1h w2l w2h w3l w3h w4l w4h : Nat} {v1 v2 v3 v4 : Value} {l1 l2 l3 l4 : List Int} (s1 : Bool) (e1 : Int) (hu1 : e1 ≤ 9223372036854775807) (hd1 : -9223372036854775808 ≤ e1) (s2 : Bool) (e2 : Int) (hu2 : e2 ≤ 9223372036854775807) (hd2 : -9223372036854775808 ≤ e2) (s3 : Bool) (e3 : Int) (hu3 : e3 ≤ 9223372036854775807) (hd3 : -9223372036854775808 ≤ e3) (s4 : Bool) (e4 : Int) (hu4 : e4 ≤ 9223372036854775807) (hd4 : -9223372036854775808 ≤ e4) (w : World) (r1 : Row .i64 b1 w1l w1h w v1 l1) (r2 : Row .i64 b2 w2l w2h w v2 l2) (r3 : Row .i64 b3 w3l w3h w v3 l3) (r4 : Row .i64 b4 w4l w4h w v4 l4) (T : TabB w) :
    Calls Tryd.prog 16 #[.agg #[.bool s1, v1, .int .i64 e1, .bool s2, v2, .int .i64 e2], .agg #[.bool s3, v3, .int .i64 e3, .bool s4, v4, .int .i64 e4]] w fun e w' => IvAns (ivC (iokB s1 l1 e1 s2 l2 e2 && iokB s3 l3 e3 s4 l4 e4 && iokB (pk (mxB s1 l1 e1 s3 l3 e3) s1 s3) (pk (mxB s1 l1 e1 s3 l3 e3) l1 l3) (pk (mxB s1 l1 e1 s3 l3 e3) e1 e3) (pk (mnB s2 l2 e2 s4 l4 e4) s2 s4) (pk (mnB s2 l2 e2 s4 l4 e4) l2 l4) (pk (mnB s2 l2 e2 s4 l4 e4) e2 e4)) (wval (pk (mxB s1 l1 e1 s3 l3 e3) s1 s3) (pk (mxB s1 l1 e1 s3 l3 e3) l1 l3)) (pk (mxB s1 l1 e1 s3 l3 e3) e1 e3) (wval (pk (mnB s2 l2 e2 s4 l4 e4) s2 s4) (pk (mnB s2 l2 e2 s4 l4 e4) l2 l4)) (pk (mnB s2 l2 e2 s4 l4 e4) e2 e4)) (wsg (wval (pk (mxB s1 l1 e1 s3 l3 e3) s1 s3) (pk (mxB s1 l1 e1 s3 l3 e3) l1 l3))) (dex (wval (pk (mxB s1 l1 e1 s3 l3 e3) s1 s3) (pk (mxB s1 l1 e1 s3 l3 e3) l1 l3)) (pk (mxB s1 l1 e1 s3 l3 e3) e1 e3)) (dlm (wval (pk (mxB s1 l1 e1 s3 l3 e3) s1 s3) (pk (mxB s1 l1 e1 s3 l3 e3) l1 l3))) (wsg (wval (pk (mnB s2 l2 e2 s4 l4 e4) s2 s4) (pk (mnB s2 l2 e2 s4 l4 e4) l2 l4))) (dex (wval (pk (mnB s2 l2 e2 s4 l4 e4) s2 s4) (pk (mnB s2 l2 e2 s4 l4 e4) l2 l4)) (pk (mnB s2 l2 e2 s4 l4 e4) e2 e4)) (dlm (wval (pk (mnB s2 l2 e2 s4 l4 e4) s2 s4) (pk (mnB s2 l2 e2 s4 l4 e4) l2 l4))) w e w' := by
  replace r1 := r1.tight
  replace r2 := r2.tight
  replace r3 := r3.tight
  replace r4 := r4.tight
  obtain ⟨c1, hc1⟩ : ∃ c, (mxB s1 l1 e1 s3 l3 e3) = c := ⟨_, rfl⟩
  obtain ⟨c2, hc2⟩ : ∃ c, (mnB s2 l2 e2 s4 l4 e4) = c := ⟨_, rfl⟩
  rw [hc1, hc2]
  have HC1 := hide hc1
  have HC2 := hide hc2
  clear hc1 hc2
  obtain ⟨S1, hS1⟩ : ∃ y, pk c1 s1 s3 = y := ⟨_, rfl⟩
  obtain ⟨P1, hP1⟩ : ∃ y, pk c1 l1 l3 = y := ⟨_, rfl⟩
  obtain ⟨E1, hE1⟩ : ∃ y, pk c1 e1 e3 = y := ⟨_, rfl⟩
  obtain ⟨S2, hS2⟩ : ∃ y, pk c2 s2 s4 = y := ⟨_, rfl⟩
  obtain ⟨P2, hP2⟩ : ∃ y, pk c2 l2 l4 = y := ⟨_, rfl⟩
  obtain ⟨E2, hE2⟩ : ∃ y, pk c2 e2 e4 = y := ⟨_, rfl⟩
  rw [hS1, hP1, hE1, hS2, hP2, hE2]
  have HS1 := hide hS1
  clear hS1
  have HP1 := hide hP1
  clear hP1
  have HE1 := hide hE1
  clear hE1
  have HS2 := hide hS2
  clear hS2
  have HP2 := hide hP2
  clear hP2
  have HE2 := hide hE2
  clear hE2
  obtain ⟨CC, hCC⟩ : ∃ c, ivC (iokB s1 l1 e1 s2 l2 e2 && iokB s3 l3 e3 s4 l4 e4 && iokB S1 P1 E1 S2 P2 E2) (wval S1 P1) (E1) (wval S2 P2) (E2) = c := ⟨_, rfl⟩
  rw [hCC]
  have HCC := hide hCC
  clear hCC
  obtain ⟨W1, hW1⟩ : ∃ c, wsg (wval S1 P1) = c := ⟨_, rfl⟩
  obtain ⟨D1, hD1⟩ : ∃ c, dex (wval S1 P1) (E1) = c := ⟨_, rfl⟩
  obtain ⟨Q1, hQ1⟩ : ∃ c, dlm (wval S1 P1) = c := ⟨_, rfl⟩
  obtain ⟨W2, hW2⟩ : ∃ c, wsg (wval S2 P2) = c := ⟨_, rfl⟩
  obtain ⟨D2, hD2⟩ : ∃ c, dex (wval S2 P2) (E2) = c := ⟨_, rfl⟩
  obtain ⟨Q2, hQ2⟩ : ∃ c, dlm (wval S2 P2) = c := ⟨_, rfl⟩
  try rw [hW1]
  try rw [hD1]
  try rw [hQ1]
  try rw [hW2]
  try rw [hD2]
  try rw [hQ2]
  have HW1 := hide hW1
  clear hW1
  have HD1 := hide hD1
  clear hD1
  have HQ1 := hide hQ1
  clear hQ1
  have HW2 := hide hW2
  clear hW2
  have HD2 := hide hD2
  clear hD2
  have HQ2 := hide hQ2
  clear hQ2
  have k0 : Kept 0 0 w (((w.alloc (.cells #[.bool s1, v1, .int .i64 e1, .bool s2, v2, .int .i64 e2] 42)).alloc (.cells #[.bool s3, v3, .int .i64 e3, .bool s4, v4, .int .i64 e4] 42)).alloc (.cells #[.bool false, .slice none 0 0, .int .i64 0, .bool false, .slice none 0 0, .int .i64 0] 42)) := ((((Kept.refl 0 0 w).alloc (.cells #[.bool s1, v1, .int .i64 e1, .bool s2, v2, .int .i64 e2] 42)).alloc (.cells #[.bool s3, v3, .int .i64 e3, .bool s4, v4, .int .i64 e4] 42)).alloc (.cells #[.bool false, .slice none 0 0, .int .i64 0, .bool false, .slice none 0 0, .int .i64 0] 42))
  have bp0 : (((w.alloc (.cells #[.bool s1, v1, .int .i64 e1, .bool s2, v2, .int .i64 e2] 42)).alloc (.cells #[.bool s3, v3, .int .i64 e3, .bool s4, v4, .int .i64 e4] 42)).alloc (.cells #[.bool false, .slice none 0 0, .int .i64 0, .bool false, .slice none 0 0, .int .i64 0] 42)).cell? ⟨w.heap.size, 0, none⟩ = some (.bool s1) := old_cell _ (old_cell _ (new_cell2 _ _ _ _ _ _ (by simp) rfl))
  have bp1 : (((w.alloc (.cells #[.bool s1, v1, .int .i64 e1, .bool s2, v2, .int .i64 e2] 42)).alloc (.cells #[.bool s3, v3, .int .i64 e3, .bool s4, v4, .int .i64 e4] 42)).alloc (.cells #[.bool false, .slice none 0 0, .int .i64 0, .bool false, .slice none 0 0, .int .i64 0] 42)).cell? ⟨w.heap.size, 1, none⟩ = some (v1) := old_cell _ (old_cell _ (new_cell2 _ _ _ _ _ _ (by simp) rfl))
  have bp2 : (((w.alloc (.cells #[.bool s1, v1, .int .i64 e1, .bool s2, v2, .int .i64 e2] 42)).alloc (.cells #[.bool s3, v3, .int .i64 e3, .bool s4, v4, .int .i64 e4] 42)).alloc (.cells #[.bool false, .slice none 0 0, .int .i64 0, .bool false, .slice none 0 0, .int .i64 0] 42)).cell? ⟨w.heap.size, 2, none⟩ = some (.int .i64 e1) := old_cell _ (old_cell _ (new_cell2 _ _ _ _ _ _ (by simp) rfl))
  have bp3 : (((w.alloc (.cells #[.bool s1, v1, .int .i64 e1, .bool s2, v2, .int .i64 e2] 42)).alloc (.cells #[.bool s3, v3, .int .i64 e3, .bool s4, v4, .int .i64 e4] 42)).alloc (.cells #[.bool false, .slice none 0 0, .int .i64 0, .bool false, .slice none 0 0, .int .i64 0] 42)).cell? ⟨w.heap.size, 3, none⟩ = some (.bool s2) := old_cell _ (old_cell _ (new_cell2 _ _ _ _ _ _ (by simp) rfl))
  have bp4 : (((w.alloc (.cells #[.bool s1, v1, .int .i64 e1, .bool s2, v2, .int .i64 e2] 42)).alloc (.cells #[.bool s3, v3, .int .i64 e3, .bool s4, v4, .int .i64 e4] 42)).alloc (.cells #[.bool false, .slice none 0 0, .int .i64 0, .bool false, .slice none 0 0, .int .i64 0] 42)).cell? ⟨w.heap.size, 4, none⟩ = some (v2) := old_cell _ (old_cell _ (new_cell2 _ _ _ _ _ _ (by simp) rfl))
  have bp5 : (((w.alloc (.cells #[.bool s1, v1, .int .i64 e1, .bool s2, v2, .int .i64 e2] 42)).alloc (.cells #[.bool s3, v3, .int .i64 e3, .bool s4, v4, .int .i64 e4] 42)).alloc (.cells #[.bool false, .slice none 0 0, .int .i64 0, .bool false, .slice none 0 0, .int .i64 0] 42)).cell? ⟨w.heap.size, 5, none⟩ = some (.int .i64 e2) := old_cell _ (old_cell _ (new_cell2 _ _ _ _ _ _ (by simp) rfl))
  have bq0 : (((w.alloc (.cells #[.bool s1, v1, .int .i64 e1, .bool s2, v2, .int .i64 e2] 42)).alloc (.cells #[.bool s3, v3, .int .i64 e3, .bool s4, v4, .int .i64 e4] 42)).alloc (.cells #[.bool false, .slice none 0 0, .int .i64 0, .bool false, .slice none 0 0, .int .i64 0] 42)).cell? ⟨w.heap.size + 1, 0, none⟩ = some (.bool s3) := old_cell _ (new_cell2 _ _ _ _ _ _ (by simp) rfl)
  have bq1 : (((w.alloc (.cells #[.bool s1, v1, .int .i64 e1, .bool s2, v2, .int .i64 e2] 42)).alloc (.cells #[.bool s3, v3, .int .i64 e3, .bool s4, v4, .int .i64 e4] 42)).alloc (.cells #[.bool false, .slice none 0 0, .int .i64 0, .bool false, .slice none 0 0, .int .i64 0] 42)).cell? ⟨w.heap.size + 1, 1, none⟩ = some (v3) := old_cell _ (new_cell2 _ _ _ _ _ _ (by simp) rfl)
  have bq2 : (((w.alloc (.cells #[.bool s1, v1, .int .i64 e1, .bool s2, v2, .int .i64 e2] 42)).alloc (.cells #[.bool s3, v3, .int .i64 e3, .bool s4, v4, .int .i64 e4] 42)).alloc (.cells #[.bool false, .slice none 0 0, .int .i64 0, .bool false, .slice none 0 0, .int .i64 0] 42)).cell? ⟨w.heap.size + 1, 2, none⟩ = some (.int .i64 e3) := old_cell _ (new_cell2 _ _ _ _ _ _ (by simp) rfl)
  have bq3 : (((w.alloc (.cells #[.bool s1, v1, .int .i64 e1, .bool s2, v2, .int .i64 e2] 42)).alloc (.cells #[.bool s3, v3, .int .i64 e3, .bool s4, v4, .int .i64 e4] 42)).alloc (.cells #[.bool false, .slice none 0 0, .int .i64 0, .bool false, .slice none 0 0, .int .i64 0] 42)).cell? ⟨w.heap.size + 1, 3, none⟩ = some (.bool s4) := old_cell _ (new_cell2 _ _ _ _ _ _ (by simp) rfl)
  have bq4 : (((w.alloc (.cells #[.bool s1, v1, .int .i64 e1, .bool s2, v2, .int .i64 e2] 42)).alloc (.cells #[.bool s3, v3, .int .i64 e3, .bool s4, v4, .int .i64 e4] 42)).alloc (.cells #[.bool false, .slice none 0 0, .int .i64 0, .bool false, .slice none 0 0, .int .i64 0] 42)).cell? ⟨w.heap.size + 1, 4, none⟩ = some (v4) := old_cell _ (new_cell2 _ _ _ _ _ _ (by simp) rfl)
  have bq5 : (((w.alloc (.cells #[.bool s1, v1, .int .i64 e1, .bool s2, v2, .int .i64 e2] 42)).alloc (.cells #[.bool s3, v3, .int .i64 e3, .bool s4, v4, .int .i64 e4] 42)).alloc (.cells #[.bool false, .slice none 0 0, .int .i64 0, .bool false, .slice none 0 0, .int .i64 0] 42)).cell? ⟨w.heap.size + 1, 5, none⟩ = some (.int .i64 e4) := old_cell _ (new_cell2 _ _ _ _ _ _ (by simp) rfl)
  have R0 : (((w.alloc (.cells #[.bool s1, v1, .int .i64 e1, .bool s2, v2, .int .i64 e2] 42)).alloc (.cells #[.bool s3, v3, .int .i64 e3, .bool s4, v4, .int .i64 e4] 42)).alloc (.cells #[.bool false, .slice none 0 0, .int .i64 0, .bool false, .slice none 0 0, .int .i64 0] 42)).cell? ⟨w.heap.size + 2, 0, none⟩ = some (.bool false) := new_cell2 _ _ _ _ _ _ (by simp) rfl
  have Rf0 : (((w.alloc (.cells #[.bool s1, v1, .int .i64 e1, .bool s2, v2, .int .i64 e2] 42)).alloc (.cells #[.bool s3, v3, .int .i64 e3, .bool s4, v4, .int .i64 e4] 42)).alloc (.cells #[.bool false, .slice none 0 0, .int .i64 0, .bool false, .slice none 0 0, .int .i64 0] 42)).frozen? ⟨w.heap.size + 2, 0, none⟩ = false := new_loose2 _ _ _ _ _ (by simp)
  have R1 : (((w.alloc (.cells #[.bool s1, v1, .int .i64 e1, .bool s2, v2, .int .i64 e2] 42)).alloc (.cells #[.bool s3, v3, .int .i64 e3, .bool s4, v4, .int .i64 e4] 42)).alloc (.cells #[.bool false, .slice none 0 0, .int .i64 0, .bool false, .slice none 0 0, .int .i64 0] 42)).cell? ⟨w.heap.size + 2, 1, none⟩ = some (.slice none 0 0) := new_cell2 _ _ _ _ _ _ (by simp) rfl
  have Rf1 : (((w.alloc (.cells #[.bool s1, v1, .int .i64 e1, .bool s2, v2, .int .i64 e2] 42)).alloc (.cells #[.bool s3, v3, .int .i64 e3, .bool s4, v4, .int .i64 e4] 42)).alloc (.cells #[.bool false, .slice none 0 0, .int .i64 0, .bool false, .slice none 0 0, .int .i64 0] 42)).frozen? ⟨w.heap.size + 2, 1, none⟩ = false := new_loose2 _ _ _ _ _ (by simp)
  have R2 : (((w.alloc (.cells #[.bool s1, v1, .int .i64 e1, .bool s2, v2, .int .i64 e2] 42)).alloc (.cells #[.bool s3, v3, .int .i64 e3, .bool s4, v4, .int .i64 e4] 42)).alloc (.cells #[.bool false, .slice none 0 0, .int .i64 0, .bool false, .slice none 0 0, .int .i64 0] 42)).cell? ⟨w.heap.size + 2, 2, none⟩ = some (.int .i64 0) := new_cell2 _ _ _ _ _ _ (by simp) rfl
  have Rf2 : (((w.alloc (.cells #[.bool s1, v1, .int .i64 e1, .bool s2, v2, .int .i64 e2] 42)).alloc (.cells #[.bool s3, v3, .int .i64 e3, .bool s4, v4, .int .i64 e4] 42)).alloc (.cells #[.bool false, .slice none 0 0, .int .i64 0, .bool false, .slice none 0 0, .int .i64 0] 42)).frozen? ⟨w.heap.size + 2, 2, none⟩ = false := new_loose2 _ _ _ _ _ (by simp)
  have R3 : (((w.alloc (.cells #[.bool s1, v1, .int .i64 e1, .bool s2, v2, .int .i64 e2] 42)).alloc (.cells #[.bool s3, v3, .int .i64 e3, .bool s4, v4, .int .i64 e4] 42)).alloc (.cells #[.bool false, .slice none 0 0, .int .i64 0, .bool false, .slice none 0 0, .int .i64 0] 42)).cell? ⟨w.heap.size + 2, 3, none⟩ = some (.bool false) := new_cell2 _ _ _ _ _ _ (by simp) rfl
  have Rf3 : (((w.alloc (.cells #[.bool s1, v1, .int .i64 e1, .bool s2, v2, .int .i64 e2] 42)).alloc (.cells #[.bool s3, v3, .int .i64 e3, .bool s4, v4, .int .i64 e4] 42)).alloc (.cells #[.bool false, .slice none 0 0, .int .i64 0, .bool false, .slice none 0 0, .int .i64 0] 42)).frozen? ⟨w.heap.size + 2, 3, none⟩ = false := new_loose2 _ _ _ _ _ (by simp)
  have R4 : (((w.alloc (.cells #[.bool s1, v1, .int .i64 e1, .bool s2, v2, .int .i64 e2] 42)).alloc (.cells #[.bool s3, v3, .int .i64 e3, .bool s4, v4, .int .i64 e4] 42)).alloc (.cells #[.bool false, .slice none 0 0, .int .i64 0, .bool false, .slice none 0 0, .int .i64 0] 42)).cell? ⟨w.heap.size + 2, 4, none⟩ = some (.slice none 0 0) := new_cell2 _ _ _ _ _ _ (by simp) rfl
  have Rf4 : (((w.alloc (.cells #[.bool s1, v1, .int .i64 e1, .bool s2, v2, .int .i64 e2] 42)).alloc (.cells #[.bool s3, v3, .int .i64 e3, .bool s4, v4, .int .i64 e4] 42)).alloc (.cells #[.bool false, .slice none 0 0, .int .i64 0, .bool false, .slice none 0 0, .int .i64 0] 42)).frozen? ⟨w.heap.size + 2, 4, none⟩ = false := new_loose2 _ _ _ _ _ (by simp)
  have R5 : (((w.alloc (.cells #[.bool s1, v1, .int .i64 e1, .bool s2, v2, .int .i64 e2] 42)).alloc (.cells #[.bool s3, v3, .int .i64 e3, .bool s4, v4, .int .i64 e4] 42)).alloc (.cells #[.bool false, .slice none 0 0, .int .i64 0, .bool false, .slice none 0 0, .int .i64 0] 42)).cell? ⟨w.heap.size + 2, 5, none⟩ = some (.int .i64 0) := new_cell2 _ _ _ _ _ _ (by simp) rfl
  have Rf5 : (((w.alloc (.cells #[.bool s1, v1, .int .i64 e1, .bool s2, v2, .int .i64 e2] 42)).alloc (.cells #[.bool s3, v3, .int .i64 e3, .bool s4, v4, .int .i64 e4] 42)).alloc (.cells #[.bool false, .slice none 0 0, .int .i64 0, .bool false, .slice none 0 0, .int .i64 0] 42)).frozen? ⟨w.heap.size + 2, 5, none⟩ = false := new_loose2 _ _ _ _ _ (by simp)
  replace r1 := r1.kept k0 (by omega)
  replace r2 := r2.kept k0 (by omega)
  replace r3 := r3.kept k0 (by omega)
  replace r4 := r4.kept k0 (by omega)
  have s0 : (((w.alloc (.cells #[.bool s1, v1, .int .i64 e1, .bool s2, v2, .int .i64 e2] 42)).alloc (.cells #[.bool s3, v3, .int .i64 e3, .bool s4, v4, .int .i64 e4] 42)).alloc (.cells #[.bool false, .slice none 0 0, .int .i64 0, .bool false, .slice none 0 0, .int .i64 0] 42)).heap.size = w.heap.size + 3 := by simp
  obtain ⟨a1, d1, hv⟩ := Row.form' r1
  subst hv
  obtain ⟨a2, d2, hv⟩ := Row.form' r2
  subst hv
  obtain ⟨a3, d3, hv⟩ := Row.form' r3
  subst hv
  obtain ⟨a4, d4, hv⟩ := Row.form' r4
  subst hv
  have K := hide (k0)
  clear k0
  have S0 := hide s0
  clear s0
  go_enter Tryd.func16, Tryd.ntmps16
  go_wp2_with fail
  generalize (((w.alloc (.cells #[.bool s1, .slice a1 l1.length d1, .int .i64 e1, .bool s2, .slice a2 l2.length d2, .int .i64 e2] 42)).alloc (.cells #[.bool s3, .slice a3 l3.length d3, .int .i64 e3, .bool s4, .slice a4 l4.length d4, .int .i64 e4] 42)).alloc (.cells #[.bool false, .slice none 0 0, .int .i64 0, .bool false, .slice none 0 0, .int .i64 0] 42)) = W at *
  have sS1 : w.heap.size + 3 ≤ W.heap.size := by have := unhide S0; omega
  refine (ivok_impl s1 e1 hu1 hd1 s2 e2 hu2 hd2 _ r1 r2).mono ?_
  rintro e w1 ⟨rfl, k1⟩
  replace r1 := r1.kept k1 (.inr (.inr (Nat.le_refl 0)))
  replace r2 := r2.kept k1 (.inr (.inr (Nat.le_refl 0)))
  replace r3 := r3.kept k1 (.inr (.inr (Nat.le_refl 0)))
  replace r4 := r4.kept k1 (.inr (.inr (Nat.le_refl 0)))
  replace Rf0 := k1.loose0 (World.block_lt_of_cell? _ _ R0) Rf0
  replace Rf1 := k1.loose0 (World.block_lt_of_cell? _ _ R1) Rf1
  replace Rf2 := k1.loose0 (World.block_lt_of_cell? _ _ R2) Rf2
  replace Rf3 := k1.loose0 (World.block_lt_of_cell? _ _ R3) Rf3
  replace Rf4 := k1.loose0 (World.block_lt_of_cell? _ _ R4) Rf4
  replace Rf5 := k1.loose0 (World.block_lt_of_cell? _ _ R5) Rf5
  replace bp0 := k1.cell0 bp0
  replace bp1 := k1.cell0 bp1
  replace bp2 := k1.cell0 bp2
  replace bp3 := k1.cell0 bp3
  replace bp4 := k1.cell0 bp4
  replace bp5 := k1.cell0 bp5
  replace bq0 := k1.cell0 bq0
  replace bq1 := k1.cell0 bq1
  replace bq2 := k1.cell0 bq2
  replace bq3 := k1.cell0 bq3
  replace bq4 := k1.cell0 bq4
  replace bq5 := k1.cell0 bq5
  replace R0 := k1.cell0 R0
  replace R1 := k1.cell0 R1
  replace R2 := k1.cell0 R2
  replace R3 := k1.cell0 R3
  replace R4 := k1.cell0 R4
  replace R5 := k1.cell0 R5
  replace K := hide ((unhide K).trans k1)
  have z2 := k1.size
  clear k1
  cases ho : iokB s1 l1 e1 s2 l2 e2
  · have EC : Hid (CC = false) := by show _ = _; rw [← unhide HCC]; exact ivC_no (by rw [ho]; rfl)
    have K7 := hide (((((((unhide K).setNew (p := ⟨w.heap.size + 2, 0, none⟩) (by simp) (.bool false)).setNew (p := ⟨w.heap.size + 2, 1, none⟩) (by simp) (.slice none 0 0)).setNew (p := ⟨w.heap.size + 2, 2, none⟩) (by simp) (.int .i64 0)).setNew (p := ⟨w.heap.size + 2, 3, none⟩) (by simp) (.bool false)).setNew (p := ⟨w.heap.size + 2, 4, none⟩) (by simp) (.slice none 0 0)).setNew (p := ⟨w.heap.size + 2, 5, none⟩) (by simp) (.int .i64 0))
    clear r1 r2 r3 r4 K
    go_wp2_with fail
    exact bodyPost_ret (v := .tuple #[.agg #[.bool false, .slice none 0 0, .int .i64 0, .bool false, .slice none 0 0, .int .i64 0], .bool false]) (by simp [results, Tryd.results16, go_sem, R0, R1, R2, R3, R4, R5]) rfl (by rw [unhide EC]; exact ivAns_no (unhide K7))
  obtain ⟨i1, i2, -⟩ := iok_parts ho
  have I1 := hide i1
  have I2 := hide i2
  have HO := hide ho
  clear ho i1 i2
  go_wp2_with fail
  refine (ivok_impl s3 e3 hu3 hd3 s4 e4 hu4 hd4 _ r3 r4).mono ?_
  rintro e w3 ⟨rfl, k3⟩
  replace r1 := r1.kept k3 (.inr (.inr (Nat.le_refl 0)))
  replace r2 := r2.kept k3 (.inr (.inr (Nat.le_refl 0)))
  replace r3 := r3.kept k3 (.inr (.inr (Nat.le_refl 0)))
  replace r4 := r4.kept k3 (.inr (.inr (Nat.le_refl 0)))
  replace Rf0 := k3.loose0 (World.block_lt_of_cell? _ _ R0) Rf0
  replace Rf1 := k3.loose0 (World.block_lt_of_cell? _ _ R1) Rf1
  replace Rf2 := k3.loose0 (World.block_lt_of_cell? _ _ R2) Rf2
  replace Rf3 := k3.loose0 (World.block_lt_of_cell? _ _ R3) Rf3
  replace Rf4 := k3.loose0 (World.block_lt_of_cell? _ _ R4) Rf4
  replace Rf5 := k3.loose0 (World.block_lt_of_cell? _ _ R5) Rf5
  replace bp0 := k3.cell0 bp0
  replace bp1 := k3.cell0 bp1
  replace bp2 := k3.cell0 bp2
  replace bp3 := k3.cell0 bp3
  replace bp4 := k3.cell0 bp4
  replace bp5 := k3.cell0 bp5
  replace bq0 := k3.cell0 bq0
  replace bq1 := k3.cell0 bq1
  replace bq2 := k3.cell0 bq2
  replace bq3 := k3.cell0 bq3
  replace bq4 := k3.cell0 bq4
  replace bq5 := k3.cell0 bq5
  replace R0 := k3.cell0 R0
  replace R1 := k3.cell0 R1
  replace R2 := k3.cell0 R2
  replace R3 := k3.cell0 R3
  replace R4 := k3.cell0 R4
  replace R5 := k3.cell0 R5
  replace K := hide ((unhide K).trans k3)
  have z4 := k3.size
  clear k3
  cases ho : iokB s3 l3 e3 s4 l4 e4
  · have EC : Hid (CC = false) := by show _ = _; rw [← unhide HCC]; exact ivC_no (by rw [ho, unhide HO]; rfl)
    have K7 := hide (((((((unhide K).setNew (p := ⟨w.heap.size + 2, 0, none⟩) (by simp) (.bool false)).setNew (p := ⟨w.heap.size + 2, 1, none⟩) (by simp) (.slice none 0 0)).setNew (p := ⟨w.heap.size + 2, 2, none⟩) (by simp) (.int .i64 0)).setNew (p := ⟨w.heap.size + 2, 3, none⟩) (by simp) (.bool false)).setNew (p := ⟨w.heap.size + 2, 4, none⟩) (by simp) (.slice none 0 0)).setNew (p := ⟨w.heap.size + 2, 5, none⟩) (by simp) (.int .i64 0))
    clear r1 r2 r3 r4 K
    go_wp2_with fail
    exact bodyPost_ret (v := .tuple #[.agg #[.bool false, .slice none 0 0, .int .i64 0, .bool false, .slice none 0 0, .int .i64 0], .bool false]) (by simp [results, Tryd.results16, go_sem, R0, R1, R2, R3, R4, R5]) rfl (by rw [unhide EC]; exact ivAns_no (unhide K7))
  obtain ⟨i3, i4, -⟩ := iok_parts ho
  have I3 := hide i3
  have I4 := hide i4
  have HO2 := hide ho
  clear ho i3 i4
  have OP1 : Hid (dokB S1 P1 E1 = true) := by show _ = _; rw [← unhide HS1, ← unhide HP1, ← unhide HE1]; exact dok_pk _ (unhide I1) (unhide I3)
  have gu1 : E1 ≤ 9223372036854775807 := by rw [← unhide HE1]; exact pk_le _ hu1 hu3
  have gd1 : -9223372036854775808 ≤ E1 := by rw [← unhide HE1]; exact pk_ge _ hd1 hd3
  have OP2 : Hid (dokB S2 P2 E2 = true) := by show _ = _; rw [← unhide HS2, ← unhide HP2, ← unhide HE2]; exact dok_pk _ (unhide I2) (unhide I4)
  have gu2 : E2 ≤ 9223372036854775807 := by rw [← unhide HE2]; exact pk_le _ hu2 hu4
  have gd2 : -9223372036854775808 ≤ E2 := by rw [← unhide HE2]; exact pk_ge _ hd2 hd4
  go_wp2_with fail
  have kn := (Kept.refl 0 0 w3).alloc (.cells #[.bool s1, .slice a1 l1.length d1, .int .i64 e1, .bool s3, .slice a3 l3.length d3, .int .i64 e3] 40)
  have L1_0 : (w3.alloc (.cells #[.bool s1, .slice a1 l1.length d1, .int .i64 e1, .bool s3, .slice a3 l3.length d3, .int .i64 e3] 40)).cell? ⟨w3.heap.size, 0, none⟩ = some (.bool s1) := new_cell2 _ _ _ _ _ _ rfl rfl
  have L1_1 : (w3.alloc (.cells #[.bool s1, .slice a1 l1.length d1, .int .i64 e1, .bool s3, .slice a3 l3.length d3, .int .i64 e3] 40)).cell? ⟨w3.heap.size, 1, none⟩ = some (.slice a1 l1.length d1) := new_cell2 _ _ _ _ _ _ rfl rfl
  have L1_2 : (w3.alloc (.cells #[.bool s1, .slice a1 l1.length d1, .int .i64 e1, .bool s3, .slice a3 l3.length d3, .int .i64 e3] 40)).cell? ⟨w3.heap.size, 2, none⟩ = some (.int .i64 e1) := new_cell2 _ _ _ _ _ _ rfl rfl
  have L1_3 : (w3.alloc (.cells #[.bool s1, .slice a1 l1.length d1, .int .i64 e1, .bool s3, .slice a3 l3.length d3, .int .i64 e3] 40)).cell? ⟨w3.heap.size, 3, none⟩ = some (.bool s3) := new_cell2 _ _ _ _ _ _ rfl rfl
  have L1_4 : (w3.alloc (.cells #[.bool s1, .slice a1 l1.length d1, .int .i64 e1, .bool s3, .slice a3 l3.length d3, .int .i64 e3] 40)).cell? ⟨w3.heap.size, 4, none⟩ = some (.slice a3 l3.length d3) := new_cell2 _ _ _ _ _ _ rfl rfl
  have L1_5 : (w3.alloc (.cells #[.bool s1, .slice a1 l1.length d1, .int .i64 e1, .bool s3, .slice a3 l3.length d3, .int .i64 e3] 40)).cell? ⟨w3.heap.size, 5, none⟩ = some (.int .i64 e3) := new_cell2 _ _ _ _ _ _ rfl rfl
  have t5 : w3.heap.size + 1 ≤ (w3.alloc (.cells #[.bool s1, .slice a1 l1.length d1, .int .i64 e1, .bool s3, .slice a3 l3.length d3, .int .i64 e3] 40)).heap.size := by simp
  replace r1 := r1.kept kn (.inr (.inr (Nat.le_refl 0)))
  replace r2 := r2.kept kn (.inr (.inr (Nat.le_refl 0)))
  replace r3 := r3.kept kn (.inr (.inr (Nat.le_refl 0)))
  replace r4 := r4.kept kn (.inr (.inr (Nat.le_refl 0)))
  replace Rf0 := kn.loose0 (World.block_lt_of_cell? _ _ R0) Rf0
  replace Rf1 := kn.loose0 (World.block_lt_of_cell? _ _ R1) Rf1
  replace Rf2 := kn.loose0 (World.block_lt_of_cell? _ _ R2) Rf2
  replace Rf3 := kn.loose0 (World.block_lt_of_cell? _ _ R3) Rf3
  replace Rf4 := kn.loose0 (World.block_lt_of_cell? _ _ R4) Rf4
  replace Rf5 := kn.loose0 (World.block_lt_of_cell? _ _ R5) Rf5
  replace bp0 := kn.cell0 bp0
  replace bp1 := kn.cell0 bp1
  replace bp2 := kn.cell0 bp2
  replace bp3 := kn.cell0 bp3
  replace bp4 := kn.cell0 bp4
  replace bp5 := kn.cell0 bp5
  replace bq0 := kn.cell0 bq0
  replace bq1 := kn.cell0 bq1
  replace bq2 := kn.cell0 bq2
  replace bq3 := kn.cell0 bq3
  replace bq4 := kn.cell0 bq4
  replace bq5 := kn.cell0 bq5
  replace R0 := kn.cell0 R0
  replace R1 := kn.cell0 R1
  replace R2 := kn.cell0 R2
  replace R3 := kn.cell0 R3
  replace R4 := kn.cell0 R4
  replace R5 := kn.cell0 R5
  replace K := hide ((unhide K).trans kn)
  have z6 := kn.size
  clear kn
  generalize w3.alloc (.cells #[.bool s1, .slice a1 l1.length d1, .int .i64 e1, .bool s3, .slice a3 l3.length d3, .int .i64 e3] 40) = wm5 at *
  have mk : Calls Tryd.prog 27 #[.slice (some ⟨w3.heap.size, 0, none⟩) 2 2, .func (.func 28) #[] #[]] wm5 fun e w' => ∃ v', e = .returned (.agg #[.bool S1, v', .int .i64 E1]) ∧ Row .i64 false 0 w.heap.size w' v' P1 ∧ Kept 0 0 wm5 w' := by
    have hd : decide (0 < cmpD s3 l3 e3 s1 l1 e1) = c1 := by
      rw [← unhide HC1]
      unfold mxB
      rw [cmpD_turn (unhide I1) (unhide I3), decide_eq_decide]
      omega
    have h := maxF_impl (cc := 2) s1 s3 e1 e3 28 in_impl_DyCmp wm5 L1_0 L1_1 L1_2 L1_3 L1_4 L1_5 hd (fun w1 kk => dcmp_impl s3 s1 e3 e1 hu3 hd3 hu1 hd1 w1 (r3.kept kk (by omega)) (r1.kept kk (by omega)))
    refine h.mono (fun e w' hh => ⟨pk c1 (.slice a1 l1.length d1) (.slice a3 l3.length d3), ?_, ?_, hh.2⟩)
    · rw [hh.1, unhide HS1, unhide HE1]
    · have rr := row_pk (H := w.heap.size) c1 (r1.kept hh.2 (by omega)) (r3.kept hh.2 (by omega)) (Nat.le_refl _) (Nat.le_refl _)
      rw [unhide HP1] at rr
      exact rr
  refine (mk).mono ?_
  rintro e w7 ⟨vP, rfl, rP1, k7⟩
  replace r1 := r1.kept k7 (.inr (.inr (Nat.le_refl 0)))
  replace r2 := r2.kept k7 (.inr (.inr (Nat.le_refl 0)))
  replace r3 := r3.kept k7 (.inr (.inr (Nat.le_refl 0)))
  replace r4 := r4.kept k7 (.inr (.inr (Nat.le_refl 0)))
  replace Rf0 := k7.loose0 (World.block_lt_of_cell? _ _ R0) Rf0
  replace Rf1 := k7.loose0 (World.block_lt_of_cell? _ _ R1) Rf1
  replace Rf2 := k7.loose0 (World.block_lt_of_cell? _ _ R2) Rf2
  replace Rf3 := k7.loose0 (World.block_lt_of_cell? _ _ R3) Rf3
  replace Rf4 := k7.loose0 (World.block_lt_of_cell? _ _ R4) Rf4
  replace Rf5 := k7.loose0 (World.block_lt_of_cell? _ _ R5) Rf5
  replace bp0 := k7.cell0 bp0
  replace bp1 := k7.cell0 bp1
  replace bp2 := k7.cell0 bp2
  replace bp3 := k7.cell0 bp3
  replace bp4 := k7.cell0 bp4
  replace bp5 := k7.cell0 bp5
  replace bq0 := k7.cell0 bq0
  replace bq1 := k7.cell0 bq1
  replace bq2 := k7.cell0 bq2
  replace bq3 := k7.cell0 bq3
  replace bq4 := k7.cell0 bq4
  replace bq5 := k7.cell0 bq5
  replace R0 := k7.cell0 R0
  replace R1 := k7.cell0 R1
  replace R2 := k7.cell0 R2
  replace R3 := k7.cell0 R3
  replace R4 := k7.cell0 R4
  replace R5 := k7.cell0 R5
  replace L1_0 := k7.cell0 L1_0
  replace L1_1 := k7.cell0 L1_1
  replace L1_2 := k7.cell0 L1_2
  replace L1_3 := k7.cell0 L1_3
  replace L1_4 := k7.cell0 L1_4
  replace L1_5 := k7.cell0 L1_5
  replace K := hide ((unhide K).trans k7)
  have z8 := k7.size
  clear k7
  clear mk
  obtain ⟨aP1, dP1, hv⟩ := Row.form' rP1
  subst hv
  have kn := (Kept.refl 0 0 w7).alloc (.cells #[.bool S1, .slice aP1 P1.length dP1, .int .i64 E1] 40)
  have lo_0 : (w7.alloc (.cells #[.bool S1, .slice aP1 P1.length dP1, .int .i64 E1] 40)).cell? ⟨w7.heap.size, 0, none⟩ = some (.bool S1) := new_cell2 _ _ _ _ _ _ rfl rfl
  have lo_1 : (w7.alloc (.cells #[.bool S1, .slice aP1 P1.length dP1, .int .i64 E1] 40)).cell? ⟨w7.heap.size, 1, none⟩ = some (.slice aP1 P1.length dP1) := new_cell2 _ _ _ _ _ _ rfl rfl
  have lo_2 : (w7.alloc (.cells #[.bool S1, .slice aP1 P1.length dP1, .int .i64 E1] 40)).cell? ⟨w7.heap.size, 2, none⟩ = some (.int .i64 E1) := new_cell2 _ _ _ _ _ _ rfl rfl
  have t9 : w7.heap.size + 1 ≤ (w7.alloc (.cells #[.bool S1, .slice aP1 P1.length dP1, .int .i64 E1] 40)).heap.size := by simp
  replace r1 := r1.kept kn (.inr (.inr (Nat.le_refl 0)))
  replace r2 := r2.kept kn (.inr (.inr (Nat.le_refl 0)))
  replace r3 := r3.kept kn (.inr (.inr (Nat.le_refl 0)))
  replace r4 := r4.kept kn (.inr (.inr (Nat.le_refl 0)))
  replace rP1 := rP1.kept kn (.inr (.inr (Nat.le_refl 0)))
  replace Rf0 := kn.loose0 (World.block_lt_of_cell? _ _ R0) Rf0
  replace Rf1 := kn.loose0 (World.block_lt_of_cell? _ _ R1) Rf1
  replace Rf2 := kn.loose0 (World.block_lt_of_cell? _ _ R2) Rf2
  replace Rf3 := kn.loose0 (World.block_lt_of_cell? _ _ R3) Rf3
  replace Rf4 := kn.loose0 (World.block_lt_of_cell? _ _ R4) Rf4
  replace Rf5 := kn.loose0 (World.block_lt_of_cell? _ _ R5) Rf5
  replace bp0 := kn.cell0 bp0
  replace bp1 := kn.cell0 bp1
  replace bp2 := kn.cell0 bp2
  replace bp3 := kn.cell0 bp3
  replace bp4 := kn.cell0 bp4
  replace bp5 := kn.cell0 bp5
  replace bq0 := kn.cell0 bq0
  replace bq1 := kn.cell0 bq1
  replace bq2 := kn.cell0 bq2
  replace bq3 := kn.cell0 bq3
  replace bq4 := kn.cell0 bq4
  replace bq5 := kn.cell0 bq5
  replace R0 := kn.cell0 R0
  replace R1 := kn.cell0 R1
  replace R2 := kn.cell0 R2
  replace R3 := kn.cell0 R3
  replace R4 := kn.cell0 R4
  replace R5 := kn.cell0 R5
  replace L1_0 := kn.cell0 L1_0
  replace L1_1 := kn.cell0 L1_1
  replace L1_2 := kn.cell0 L1_2
  replace L1_3 := kn.cell0 L1_3
  replace L1_4 := kn.cell0 L1_4
  replace L1_5 := kn.cell0 L1_5
  replace K := hide ((unhide K).trans kn)
  have z10 := kn.size
  clear kn
  go_upto_region 4 with fail
  generalize w7.alloc (.cells #[.bool S1, .slice aP1 P1.length dP1, .int .i64 E1] 40) = wm9 at *
  go_wp2_with fail
  have kn := (Kept.refl 0 0 wm9).alloc (.cells #[.bool s2, .slice a2 l2.length d2, .int .i64 e2, .bool s4, .slice a4 l4.length d4, .int .i64 e4] 40)
  have L2_0 : (wm9.alloc (.cells #[.bool s2, .slice a2 l2.length d2, .int .i64 e2, .bool s4, .slice a4 l4.length d4, .int .i64 e4] 40)).cell? ⟨wm9.heap.size, 0, none⟩ = some (.bool s2) := new_cell2 _ _ _ _ _ _ rfl rfl
  have L2_1 : (wm9.alloc (.cells #[.bool s2, .slice a2 l2.length d2, .int .i64 e2, .bool s4, .slice a4 l4.length d4, .int .i64 e4] 40)).cell? ⟨wm9.heap.size, 1, none⟩ = some (.slice a2 l2.length d2) := new_cell2 _ _ _ _ _ _ rfl rfl
  have L2_2 : (wm9.alloc (.cells #[.bool s2, .slice a2 l2.length d2, .int .i64 e2, .bool s4, .slice a4 l4.length d4, .int .i64 e4] 40)).cell? ⟨wm9.heap.size, 2, none⟩ = some (.int .i64 e2) := new_cell2 _ _ _ _ _ _ rfl rfl
  have L2_3 : (wm9.alloc (.cells #[.bool s2, .slice a2 l2.length d2, .int .i64 e2, .bool s4, .slice a4 l4.length d4, .int .i64 e4] 40)).cell? ⟨wm9.heap.size, 3, none⟩ = some (.bool s4) := new_cell2 _ _ _ _ _ _ rfl rfl
  have L2_4 : (wm9.alloc (.cells #[.bool s2, .slice a2 l2.length d2, .int .i64 e2, .bool s4, .slice a4 l4.length d4, .int .i64 e4] 40)).cell? ⟨wm9.heap.size, 4, none⟩ = some (.slice a4 l4.length d4) := new_cell2 _ _ _ _ _ _ rfl rfl
  have L2_5 : (wm9.alloc (.cells #[.bool s2, .slice a2 l2.length d2, .int .i64 e2, .bool s4, .slice a4 l4.length d4, .int .i64 e4] 40)).cell? ⟨wm9.heap.size, 5, none⟩ = some (.int .i64 e4) := new_cell2 _ _ _ _ _ _ rfl rfl
  have t11 : wm9.heap.size + 1 ≤ (wm9.alloc (.cells #[.bool s2, .slice a2 l2.length d2, .int .i64 e2, .bool s4, .slice a4 l4.length d4, .int .i64 e4] 40)).heap.size := by simp
  replace r1 := r1.kept kn (.inr (.inr (Nat.le_refl 0)))
  replace r2 := r2.kept kn (.inr (.inr (Nat.le_refl 0)))
  replace r3 := r3.kept kn (.inr (.inr (Nat.le_refl 0)))
  replace r4 := r4.kept kn (.inr (.inr (Nat.le_refl 0)))
  replace rP1 := rP1.kept kn (.inr (.inr (Nat.le_refl 0)))
  replace Rf0 := kn.loose0 (World.block_lt_of_cell? _ _ R0) Rf0
  replace Rf1 := kn.loose0 (World.block_lt_of_cell? _ _ R1) Rf1
  replace Rf2 := kn.loose0 (World.block_lt_of_cell? _ _ R2) Rf2
  replace Rf3 := kn.loose0 (World.block_lt_of_cell? _ _ R3) Rf3
  replace Rf4 := kn.loose0 (World.block_lt_of_cell? _ _ R4) Rf4
  replace Rf5 := kn.loose0 (World.block_lt_of_cell? _ _ R5) Rf5
  replace bp0 := kn.cell0 bp0
  replace bp1 := kn.cell0 bp1
  replace bp2 := kn.cell0 bp2
  replace bp3 := kn.cell0 bp3
  replace bp4 := kn.cell0 bp4
  replace bp5 := kn.cell0 bp5
  replace bq0 := kn.cell0 bq0
  replace bq1 := kn.cell0 bq1
  replace bq2 := kn.cell0 bq2
  replace bq3 := kn.cell0 bq3
  replace bq4 := kn.cell0 bq4
  replace bq5 := kn.cell0 bq5
  replace R0 := kn.cell0 R0
  replace R1 := kn.cell0 R1
  replace R2 := kn.cell0 R2
  replace R3 := kn.cell0 R3
  replace R4 := kn.cell0 R4
  replace R5 := kn.cell0 R5
  replace L1_0 := kn.cell0 L1_0
  replace L1_1 := kn.cell0 L1_1
  replace L1_2 := kn.cell0 L1_2
  replace L1_3 := kn.cell0 L1_3
  replace L1_4 := kn.cell0 L1_4
  replace L1_5 := kn.cell0 L1_5
  replace lo_0 := kn.cell0 lo_0
  replace lo_1 := kn.cell0 lo_1
  replace lo_2 := kn.cell0 lo_2
  replace K := hide ((unhide K).trans kn)
  have z12 := kn.size
  clear kn
  generalize wm9.alloc (.cells #[.bool s2, .slice a2 l2.length d2, .int .i64 e2, .bool s4, .slice a4 l4.length d4, .int .i64 e4] 40) = wm11 at *
  have mk : Calls Tryd.prog 29 #[.slice (some ⟨wm9.heap.size, 0, none⟩) 2 2, .func (.func 28) #[] #[]] wm11 fun e w' => ∃ v', e = .returned (.agg #[.bool S2, v', .int .i64 E2]) ∧ Row .i64 false 0 w.heap.size w' v' P2 ∧ Kept 0 0 wm11 w' := by
    have hd : decide (cmpD s4 l4 e4 s2 l2 e2 < 0) = c2 := by
      rw [← unhide HC2]
      unfold mnB
      rw [cmpD_turn (unhide I2) (unhide I4), decide_eq_decide]
      omega
    have h := minF_impl (cc := 2) s2 s4 e2 e4 28 in_impl_DyCmp wm11 L2_0 L2_1 L2_2 L2_3 L2_4 L2_5 hd (fun w1 kk => dcmp_impl s4 s2 e4 e2 hu4 hd4 hu2 hd2 w1 (r4.kept kk (by omega)) (r2.kept kk (by omega)))
    refine h.mono (fun e w' hh => ⟨pk c2 (.slice a2 l2.length d2) (.slice a4 l4.length d4), ?_, ?_, hh.2⟩)
    · rw [hh.1, unhide HS2, unhide HE2]
    · have rr := row_pk (H := w.heap.size) c2 (r2.kept hh.2 (by omega)) (r4.kept hh.2 (by omega)) (Nat.le_refl _) (Nat.le_refl _)
      rw [unhide HP2] at rr
      exact rr
  refine (mk).mono ?_
  rintro e w13 ⟨vP, rfl, rP2, k13⟩
  replace r1 := r1.kept k13 (.inr (.inr (Nat.le_refl 0)))
  replace r2 := r2.kept k13 (.inr (.inr (Nat.le_refl 0)))
  replace r3 := r3.kept k13 (.inr (.inr (Nat.le_refl 0)))
  replace r4 := r4.kept k13 (.inr (.inr (Nat.le_refl 0)))
  replace rP1 := rP1.kept k13 (.inr (.inr (Nat.le_refl 0)))
  replace Rf0 := k13.loose0 (World.block_lt_of_cell? _ _ R0) Rf0
  replace Rf1 := k13.loose0 (World.block_lt_of_cell? _ _ R1) Rf1
  replace Rf2 := k13.loose0 (World.block_lt_of_cell? _ _ R2) Rf2
  replace Rf3 := k13.loose0 (World.block_lt_of_cell? _ _ R3) Rf3
  replace Rf4 := k13.loose0 (World.block_lt_of_cell? _ _ R4) Rf4
  replace Rf5 := k13.loose0 (World.block_lt_of_cell? _ _ R5) Rf5
  replace bp0 := k13.cell0 bp0
  replace bp1 := k13.cell0 bp1
  replace bp2 := k13.cell0 bp2
  replace bp3 := k13.cell0 bp3
  replace bp4 := k13.cell0 bp4
  replace bp5 := k13.cell0 bp5
  replace bq0 := k13.cell0 bq0
  replace bq1 := k13.cell0 bq1
  replace bq2 := k13.cell0 bq2
  replace bq3 := k13.cell0 bq3
  replace bq4 := k13.cell0 bq4
  replace bq5 := k13.cell0 bq5
  replace R0 := k13.cell0 R0
  replace R1 := k13.cell0 R1
  replace R2 := k13.cell0 R2
  replace R3 := k13.cell0 R3
  replace R4 := k13.cell0 R4
  replace R5 := k13.cell0 R5
  replace L1_0 := k13.cell0 L1_0
  replace L1_1 := k13.cell0 L1_1
  replace L1_2 := k13.cell0 L1_2
  replace L1_3 := k13.cell0 L1_3
  replace L1_4 := k13.cell0 L1_4
  replace L1_5 := k13.cell0 L1_5
  replace lo_0 := k13.cell0 lo_0
  replace lo_1 := k13.cell0 lo_1
  replace lo_2 := k13.cell0 lo_2
  replace L2_0 := k13.cell0 L2_0
  replace L2_1 := k13.cell0 L2_1
  replace L2_2 := k13.cell0 L2_2
  replace L2_3 := k13.cell0 L2_3
  replace L2_4 := k13.cell0 L2_4
  replace L2_5 := k13.cell0 L2_5
  replace K := hide ((unhide K).trans k13)
  have z14 := k13.size
  clear k13
  clear mk
  obtain ⟨aP2, dP2, hv⟩ := Row.form' rP2
  subst hv
  have kn := (Kept.refl 0 0 w13).alloc (.cells #[.bool S2, .slice aP2 P2.length dP2, .int .i64 E2] 40)
  have hi_0 : (w13.alloc (.cells #[.bool S2, .slice aP2 P2.length dP2, .int .i64 E2] 40)).cell? ⟨w13.heap.size, 0, none⟩ = some (.bool S2) := new_cell2 _ _ _ _ _ _ rfl rfl
  have hi_1 : (w13.alloc (.cells #[.bool S2, .slice aP2 P2.length dP2, .int .i64 E2] 40)).cell? ⟨w13.heap.size, 1, none⟩ = some (.slice aP2 P2.length dP2) := new_cell2 _ _ _ _ _ _ rfl rfl
  have hi_2 : (w13.alloc (.cells #[.bool S2, .slice aP2 P2.length dP2, .int .i64 E2] 40)).cell? ⟨w13.heap.size, 2, none⟩ = some (.int .i64 E2) := new_cell2 _ _ _ _ _ _ rfl rfl
  have t15 : w13.heap.size + 1 ≤ (w13.alloc (.cells #[.bool S2, .slice aP2 P2.length dP2, .int .i64 E2] 40)).heap.size := by simp
  replace r1 := r1.kept kn (.inr (.inr (Nat.le_refl 0)))
  replace r2 := r2.kept kn (.inr (.inr (Nat.le_refl 0)))
  replace r3 := r3.kept kn (.inr (.inr (Nat.le_refl 0)))
  replace r4 := r4.kept kn (.inr (.inr (Nat.le_refl 0)))
  replace rP1 := rP1.kept kn (.inr (.inr (Nat.le_refl 0)))
  replace rP2 := rP2.kept kn (.inr (.inr (Nat.le_refl 0)))
  replace Rf0 := kn.loose0 (World.block_lt_of_cell? _ _ R0) Rf0
  replace Rf1 := kn.loose0 (World.block_lt_of_cell? _ _ R1) Rf1
  replace Rf2 := kn.loose0 (World.block_lt_of_cell? _ _ R2) Rf2
  replace Rf3 := kn.loose0 (World.block_lt_of_cell? _ _ R3) Rf3
  replace Rf4 := kn.loose0 (World.block_lt_of_cell? _ _ R4) Rf4
  replace Rf5 := kn.loose0 (World.block_lt_of_cell? _ _ R5) Rf5
  replace bp0 := kn.cell0 bp0
  replace bp1 := kn.cell0 bp1
  replace bp2 := kn.cell0 bp2
  replace bp3 := kn.cell0 bp3
  replace bp4 := kn.cell0 bp4
  replace bp5 := kn.cell0 bp5
  replace bq0 := kn.cell0 bq0
  replace bq1 := kn.cell0 bq1
  replace bq2 := kn.cell0 bq2
  replace bq3 := kn.cell0 bq3
  replace bq4 := kn.cell0 bq4
  replace bq5 := kn.cell0 bq5
  replace R0 := kn.cell0 R0
  replace R1 := kn.cell0 R1
  replace R2 := kn.cell0 R2
  replace R3 := kn.cell0 R3
  replace R4 := kn.cell0 R4
  replace R5 := kn.cell0 R5
  replace L1_0 := kn.cell0 L1_0
  replace L1_1 := kn.cell0 L1_1
  replace L1_2 := kn.cell0 L1_2
  replace L1_3 := kn.cell0 L1_3
  replace L1_4 := kn.cell0 L1_4
  replace L1_5 := kn.cell0 L1_5
  replace lo_0 := kn.cell0 lo_0
  replace lo_1 := kn.cell0 lo_1
  replace lo_2 := kn.cell0 lo_2
  replace L2_0 := kn.cell0 L2_0
  replace L2_1 := kn.cell0 L2_1
  replace L2_2 := kn.cell0 L2_2
  replace L2_3 := kn.cell0 L2_3
  replace L2_4 := kn.cell0 L2_4
  replace L2_5 := kn.cell0 L2_5
  replace K := hide ((unhide K).trans kn)
  have z16 := kn.size
  clear kn
  go_upto_region 5 with fail
  generalize w13.alloc (.cells #[.bool S2, .slice aP2 P2.length dP2, .int .i64 E2] 40) = wm15 at *
  go_wp2_with fail
  have mk := ivof_impl S1 E1 gu1 gd1 S2 E2 gu2 gd2 wm15 rP1 rP2 (T.kept (unhide K))
  have hcc : iokB S1 P1 E1 S2 P2 E2 = (iokB s1 l1 e1 s2 l2 e2 && iokB s3 l3 e3 s4 l4 e4 && iokB S1 P1 E1 S2 P2 E2) := by rw [unhide HO, unhide HO2]; rfl
  rw [hcc] at mk
  clear hcc
  rw [unhide HCC, unhide HW1, unhide HD1, unhide HQ1, unhide HW2, unhide HD2, unhide HQ2] at mk
  refine (mk).mono ?_
  rintro e w17 h5
  skip
  obtain ⟨q1, y1, M1, q2, y2, M2, vL, vM, mid, rfl, rL, rM, hm1, hm2, k5, hq⟩ := ivAns_open h5
  have HQ := hide hq
  clear hq h5
  replace r1 := r1.kept k5 (.inr (.inr (Nat.le_refl 0)))
  replace r2 := r2.kept k5 (.inr (.inr (Nat.le_refl 0)))
  replace r3 := r3.kept k5 (.inr (.inr (Nat.le_refl 0)))
  replace r4 := r4.kept k5 (.inr (.inr (Nat.le_refl 0)))
  replace rP1 := rP1.kept k5 (.inr (.inr (Nat.le_refl 0)))
  replace rP2 := rP2.kept k5 (.inr (.inr (Nat.le_refl 0)))
  replace Rf0 := k5.loose0 (World.block_lt_of_cell? _ _ R0) Rf0
  replace Rf1 := k5.loose0 (World.block_lt_of_cell? _ _ R1) Rf1
  replace Rf2 := k5.loose0 (World.block_lt_of_cell? _ _ R2) Rf2
  replace Rf3 := k5.loose0 (World.block_lt_of_cell? _ _ R3) Rf3
  replace Rf4 := k5.loose0 (World.block_lt_of_cell? _ _ R4) Rf4
  replace Rf5 := k5.loose0 (World.block_lt_of_cell? _ _ R5) Rf5
  replace bp0 := k5.cell0 bp0
  replace bp1 := k5.cell0 bp1
  replace bp2 := k5.cell0 bp2
  replace bp3 := k5.cell0 bp3
  replace bp4 := k5.cell0 bp4
  replace bp5 := k5.cell0 bp5
  replace bq0 := k5.cell0 bq0
  replace bq1 := k5.cell0 bq1
  replace bq2 := k5.cell0 bq2
  replace bq3 := k5.cell0 bq3
  replace bq4 := k5.cell0 bq4
  replace bq5 := k5.cell0 bq5
  replace R0 := k5.cell0 R0
  replace R1 := k5.cell0 R1
  replace R2 := k5.cell0 R2
  replace R3 := k5.cell0 R3
  replace R4 := k5.cell0 R4
  replace R5 := k5.cell0 R5
  replace L1_0 := k5.cell0 L1_0
  replace L1_1 := k5.cell0 L1_1
  replace L1_2 := k5.cell0 L1_2
  replace L1_3 := k5.cell0 L1_3
  replace L1_4 := k5.cell0 L1_4
  replace L1_5 := k5.cell0 L1_5
  replace lo_0 := k5.cell0 lo_0
  replace lo_1 := k5.cell0 lo_1
  replace lo_2 := k5.cell0 lo_2
  replace L2_0 := k5.cell0 L2_0
  replace L2_1 := k5.cell0 L2_1
  replace L2_2 := k5.cell0 L2_2
  replace L2_3 := k5.cell0 L2_3
  replace L2_4 := k5.cell0 L2_4
  replace L2_5 := k5.cell0 L2_5
  replace hi_0 := k5.cell0 hi_0
  replace hi_1 := k5.cell0 hi_1
  replace hi_2 := k5.cell0 hi_2
  replace K := hide ((unhide K).trans k5)
  have z18 := k5.size
  clear k5
  obtain ⟨aL, dL, hv⟩ := Row.form' rL
  subst hv
  obtain ⟨aM, dM, hv⟩ := Row.form' rM
  subst hv
  have RL := hide ((((((rL.set_other (p := ⟨w.heap.size + 2, 0, none⟩) (.inl (by have := unhide S0; dsimp only; omega)) (.bool q1)).set_other (p := ⟨w.heap.size + 2, 1, none⟩) (.inl (by have := unhide S0; dsimp only; omega)) (.slice aL M1.length dL)).set_other (p := ⟨w.heap.size + 2, 2, none⟩) (.inl (by have := unhide S0; dsimp only; omega)) (.int .i64 y1)).set_other (p := ⟨w.heap.size + 2, 3, none⟩) (.inl (by have := unhide S0; dsimp only; omega)) (.bool q2)).set_other (p := ⟨w.heap.size + 2, 4, none⟩) (.inl (by have := unhide S0; dsimp only; omega)) (.slice aM M2.length dM)).set_other (p := ⟨w.heap.size + 2, 5, none⟩) (.inl (by have := unhide S0; dsimp only; omega)) (.int .i64 y2))
  have RM := hide ((((((rM.set_other (p := ⟨w.heap.size + 2, 0, none⟩) (.inl (by have := unhide S0; dsimp only; omega)) (.bool q1)).set_other (p := ⟨w.heap.size + 2, 1, none⟩) (.inl (by have := unhide S0; dsimp only; omega)) (.slice aL M1.length dL)).set_other (p := ⟨w.heap.size + 2, 2, none⟩) (.inl (by have := unhide S0; dsimp only; omega)) (.int .i64 y1)).set_other (p := ⟨w.heap.size + 2, 3, none⟩) (.inl (by have := unhide S0; dsimp only; omega)) (.bool q2)).set_other (p := ⟨w.heap.size + 2, 4, none⟩) (.inl (by have := unhide S0; dsimp only; omega)) (.slice aM M2.length dM)).set_other (p := ⟨w.heap.size + 2, 5, none⟩) (.inl (by have := unhide S0; dsimp only; omega)) (.int .i64 y2))
  have K7 := hide (((((((unhide K).setNew (p := ⟨w.heap.size + 2, 0, none⟩) (by simp) (.bool q1)).setNew (p := ⟨w.heap.size + 2, 1, none⟩) (by simp) (.slice aL M1.length dL)).setNew (p := ⟨w.heap.size + 2, 2, none⟩) (by simp) (.int .i64 y1)).setNew (p := ⟨w.heap.size + 2, 3, none⟩) (by simp) (.bool q2)).setNew (p := ⟨w.heap.size + 2, 4, none⟩) (by simp) (.slice aM M2.length dM)).setNew (p := ⟨w.heap.size + 2, 5, none⟩) (by simp) (.int .i64 y2))
  clear r1 r2 r3 r4 rP1 rP2 rL rM K
  go_wp2_with fail
  have sS0 := unhide S0
  exact bodyPost_ret (v := .tuple #[.agg #[.bool q1, .slice aL M1.length dL, .int .i64 y1, .bool q2, .slice aM M2.length dM, .int .i64 y2], .bool CC]) (by simp [results, Tryd.results16, go_sem, R0, R1, R2, R3, R4, R5]) rfl (ivAns_shut (unhide HQ) ((unhide RL).wider (by omega) (Nat.le_refl _)) (unhide RM).tight (by omega) (by simp only [size_set]; omega) (unhide K7))

end Go.Proofs.YtgdgkncielliaaaDoor
