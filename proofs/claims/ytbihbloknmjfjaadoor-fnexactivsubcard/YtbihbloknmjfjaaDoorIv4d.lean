/-
  Intervals of the model: l7add, IvAdd.
-/
import Derived.Test.YtbihbloknmjfjaaDoorIv4a
import Derived.Test.YtbihbloknmjfjaaDoorIvR
import Derived.Deep.DeepCutAuto
import Derived.Deep.RegionHeld3
namespace Go.Proofs.YtbihbloknmjfjaaDoor
open Go.RowKit
set_option linter.unusedVariables false
set_option maxRecDepth 8000
set_option linter.unusedSimpArgs false

theorem in_l7add : ∀ (w : World) (args : Array Value), (callFunc 36 args).run Tryd.prog w = .ok (.enter 36 args) w := enters Tryd.func36 (by decide) (fun h => by cases h)

set_option maxHeartbeats 4000000 in
theorem add7_spec {b1 b2 b3 b4 : Bool} {w1l w1h w2l w2h w3l w3h w4l w4h : Nat} {v1 v2 v3 v4 : Value} {l1 l2 l3 l4 : List Int} (s1 : Bool) (e1 : Int) (s2 : Bool) (e2 : Int) (s3 : Bool) (e3 : Int) (s4 : Bool) (e4 : Int) (w : World) (r1 : Row .i64 b1 w1l w1h w v1 l1) (r2 : Row .i64 b2 w2l w2h w v2 l2) (r3 : Row .i64 b3 w3l w3h w v3 l3) (r4 : Row .i64 b4 w4l w4h w v4 l4) (o1 : dokB s1 l1 e1 = true) (o2 : dokB s2 l2 e2 = true) (o3 : dokB s3 l3 e3 = true) (o4 : dokB s4 l4 e4 = true) :
    Calls Tryd.prog 36 #[.agg #[.bool s1, v1, .int .i64 e1, .bool s2, v2, .int .i64 e2], .agg #[.bool s3, v3, .int .i64 e3, .bool s4, v4, .int .i64 e4]] w fun e w' => ∃ v v', e = .returned (.agg #[.bool (wsg (wval s1 l1 * 2 ^ (e1 - min e1 e3).toNat + wval s3 l3 * 2 ^ (e3 - min e1 e3).toNat)), v, .int .i64 (dex (wval s1 l1 * 2 ^ (e1 - min e1 e3).toNat + wval s3 l3 * 2 ^ (e3 - min e1 e3).toNat) (min e1 e3)), .bool (wsg (wval s2 l2 * 2 ^ (e2 - min e2 e4).toNat + wval s4 l4 * 2 ^ (e4 - min e2 e4).toNat)), v', .int .i64 (dex (wval s2 l2 * 2 ^ (e2 - min e2 e4).toNat + wval s4 l4 * 2 ^ (e4 - min e2 e4).toNat) (min e2 e4))]) ∧ Row .i64 true w.heap.size w'.heap.size w' v (dlm (wval s1 l1 * 2 ^ (e1 - min e1 e3).toNat + wval s3 l3 * 2 ^ (e3 - min e1 e3).toNat)) ∧ Row .i64 true w.heap.size w'.heap.size w' v' (dlm (wval s2 l2 * 2 ^ (e2 - min e2 e4).toNat + wval s4 l4 * 2 ^ (e4 - min e2 e4).toNat)) ∧ Kept 0 0 w w' := by
  replace r1 := r1.tight
  replace r2 := r2.tight
  replace r3 := r3.tight
  replace r4 := r4.tight
  obtain ⟨W1, hW1⟩ : ∃ c, wsg (wval s1 l1 * 2 ^ (e1 - min e1 e3).toNat + wval s3 l3 * 2 ^ (e3 - min e1 e3).toNat) = c := ⟨_, rfl⟩
  obtain ⟨D1, hD1⟩ : ∃ c, dex (wval s1 l1 * 2 ^ (e1 - min e1 e3).toNat + wval s3 l3 * 2 ^ (e3 - min e1 e3).toNat) (min e1 e3) = c := ⟨_, rfl⟩
  obtain ⟨Q1, hQ1⟩ : ∃ c, dlm (wval s1 l1 * 2 ^ (e1 - min e1 e3).toNat + wval s3 l3 * 2 ^ (e3 - min e1 e3).toNat) = c := ⟨_, rfl⟩
  obtain ⟨W2, hW2⟩ : ∃ c, wsg (wval s2 l2 * 2 ^ (e2 - min e2 e4).toNat + wval s4 l4 * 2 ^ (e4 - min e2 e4).toNat) = c := ⟨_, rfl⟩
  obtain ⟨D2, hD2⟩ : ∃ c, dex (wval s2 l2 * 2 ^ (e2 - min e2 e4).toNat + wval s4 l4 * 2 ^ (e4 - min e2 e4).toNat) (min e2 e4) = c := ⟨_, rfl⟩
  obtain ⟨Q2, hQ2⟩ : ∃ c, dlm (wval s2 l2 * 2 ^ (e2 - min e2 e4).toNat + wval s4 l4 * 2 ^ (e4 - min e2 e4).toNat) = c := ⟨_, rfl⟩
  rw [hW1, hD1, hQ1, hW2, hD2, hQ2]
  have HW1 := hide hW1
  clear hW1
  have HD1 := hide hD1
  clear hD1
  have HQ1 := hide hQ1
  clear hQ1
  have HW2 := hide hW2
  clear hW2
  have HD2 := hide hD2
  clear hD2
  have HQ2 := hide hQ2
  clear hQ2
  obtain ⟨Wn, hn0⟩ : ∃ wz, wz = (((w.alloc (.cells #[.bool s1, v1, .int .i64 e1, .bool s2, v2, .int .i64 e2] 36)).alloc (.cells #[.bool s3, v3, .int .i64 e3, .bool s4, v4, .int .i64 e4] 36)).alloc (.cells #[.bool false, .slice none 0 0, .int .i64 0, .bool false, .slice none 0 0, .int .i64 0] 36)) := ⟨_, rfl⟩
  have k0 : Kept 0 0 w Wn := by rw [hn0]; exact ((((Kept.refl 0 0 w).alloc _).alloc _).alloc _)
  have bp0 : Wn.cell? ⟨w.heap.size, 0, none⟩ = some (.bool s1) := by rw [hn0]; exact old_cell _ (old_cell _ (new_cell2 _ _ _ _ _ _ (by simp) rfl))
  have bp1 : Wn.cell? ⟨w.heap.size, 1, none⟩ = some (v1) := by rw [hn0]; exact old_cell _ (old_cell _ (new_cell2 _ _ _ _ _ _ (by simp) rfl))
  have bp2 : Wn.cell? ⟨w.heap.size, 2, none⟩ = some (.int .i64 e1) := by rw [hn0]; exact old_cell _ (old_cell _ (new_cell2 _ _ _ _ _ _ (by simp) rfl))
  have bp3 : Wn.cell? ⟨w.heap.size, 3, none⟩ = some (.bool s2) := by rw [hn0]; exact old_cell _ (old_cell _ (new_cell2 _ _ _ _ _ _ (by simp) rfl))
  have bp4 : Wn.cell? ⟨w.heap.size, 4, none⟩ = some (v2) := by rw [hn0]; exact old_cell _ (old_cell _ (new_cell2 _ _ _ _ _ _ (by simp) rfl))
  have bp5 : Wn.cell? ⟨w.heap.size, 5, none⟩ = some (.int .i64 e2) := by rw [hn0]; exact old_cell _ (old_cell _ (new_cell2 _ _ _ _ _ _ (by simp) rfl))
  have bq0 : Wn.cell? ⟨w.heap.size + 1, 0, none⟩ = some (.bool s3) := by rw [hn0]; exact old_cell _ (new_cell2 _ _ _ _ _ _ (by simp) rfl)
  have bq1 : Wn.cell? ⟨w.heap.size + 1, 1, none⟩ = some (v3) := by rw [hn0]; exact old_cell _ (new_cell2 _ _ _ _ _ _ (by simp) rfl)
  have bq2 : Wn.cell? ⟨w.heap.size + 1, 2, none⟩ = some (.int .i64 e3) := by rw [hn0]; exact old_cell _ (new_cell2 _ _ _ _ _ _ (by simp) rfl)
  have bq3 : Wn.cell? ⟨w.heap.size + 1, 3, none⟩ = some (.bool s4) := by rw [hn0]; exact old_cell _ (new_cell2 _ _ _ _ _ _ (by simp) rfl)
  have bq4 : Wn.cell? ⟨w.heap.size + 1, 4, none⟩ = some (v4) := by rw [hn0]; exact old_cell _ (new_cell2 _ _ _ _ _ _ (by simp) rfl)
  have bq5 : Wn.cell? ⟨w.heap.size + 1, 5, none⟩ = some (.int .i64 e4) := by rw [hn0]; exact old_cell _ (new_cell2 _ _ _ _ _ _ (by simp) rfl)
  have R0 : Wn.cell? ⟨w.heap.size + 2, 0, none⟩ = some (.bool false) := by rw [hn0]; exact new_cell2 _ _ _ _ _ _ (by simp) rfl
  have Rf0 : Wn.frozen? ⟨w.heap.size + 2, 0, none⟩ = false := by rw [hn0]; exact new_loose2 _ _ _ _ _ (by simp)
  have R1 : Wn.cell? ⟨w.heap.size + 2, 1, none⟩ = some (.slice none 0 0) := by rw [hn0]; exact new_cell2 _ _ _ _ _ _ (by simp) rfl
  have Rf1 : Wn.frozen? ⟨w.heap.size + 2, 1, none⟩ = false := by rw [hn0]; exact new_loose2 _ _ _ _ _ (by simp)
  have R2 : Wn.cell? ⟨w.heap.size + 2, 2, none⟩ = some (.int .i64 0) := by rw [hn0]; exact new_cell2 _ _ _ _ _ _ (by simp) rfl
  have Rf2 : Wn.frozen? ⟨w.heap.size + 2, 2, none⟩ = false := by rw [hn0]; exact new_loose2 _ _ _ _ _ (by simp)
  have R3 : Wn.cell? ⟨w.heap.size + 2, 3, none⟩ = some (.bool false) := by rw [hn0]; exact new_cell2 _ _ _ _ _ _ (by simp) rfl
  have Rf3 : Wn.frozen? ⟨w.heap.size + 2, 3, none⟩ = false := by rw [hn0]; exact new_loose2 _ _ _ _ _ (by simp)
  have R4 : Wn.cell? ⟨w.heap.size + 2, 4, none⟩ = some (.slice none 0 0) := by rw [hn0]; exact new_cell2 _ _ _ _ _ _ (by simp) rfl
  have Rf4 : Wn.frozen? ⟨w.heap.size + 2, 4, none⟩ = false := by rw [hn0]; exact new_loose2 _ _ _ _ _ (by simp)
  have R5 : Wn.cell? ⟨w.heap.size + 2, 5, none⟩ = some (.int .i64 0) := by rw [hn0]; exact new_cell2 _ _ _ _ _ _ (by simp) rfl
  have Rf5 : Wn.frozen? ⟨w.heap.size + 2, 5, none⟩ = false := by rw [hn0]; exact new_loose2 _ _ _ _ _ (by simp)
  subst hn0
  replace r1 := r1.kept k0 (by omega)
  replace r2 := r2.kept k0 (by omega)
  replace r3 := r3.kept k0 (by omega)
  replace r4 := r4.kept k0 (by omega)
  have s0 : (((w.alloc (.cells #[.bool s1, v1, .int .i64 e1, .bool s2, v2, .int .i64 e2] 36)).alloc (.cells #[.bool s3, v3, .int .i64 e3, .bool s4, v4, .int .i64 e4] 36)).alloc (.cells #[.bool false, .slice none 0 0, .int .i64 0, .bool false, .slice none 0 0, .int .i64 0] 36)).heap.size = w.heap.size + 3 := by simp
  obtain ⟨a1, c1, hv⟩ := Row.form' r1
  subst hv
  obtain ⟨a2, c2, hv⟩ := Row.form' r2
  subst hv
  obtain ⟨a3, c3, hv⟩ := Row.form' r3
  subst hv
  obtain ⟨a4, c4, hv⟩ := Row.form' r4
  subst hv
  have K := hide (k0)
  clear k0
  have S0 := hide s0
  clear s0
  go_enter Tryd.func36, Tryd.ntmps36
  go_wp2_with fail
  generalize (((w.alloc (.cells #[.bool s1, .slice a1 l1.length c1, .int .i64 e1, .bool s2, .slice a2 l2.length c2, .int .i64 e2] 36)).alloc (.cells #[.bool s3, .slice a3 l3.length c3, .int .i64 e3, .bool s4, .slice a4 l4.length c4, .int .i64 e4] 36)).alloc (.cells #[.bool false, .slice none 0 0, .int .i64 0, .bool false, .slice none 0 0, .int .i64 0] 36)) = W at *
  have mkA := fun w' r1' r3' => add4_spec (b1 := b1) (l1 := w1l) (h1 := w.heap.size) (b2 := b3) (l2 := w3l) (h2 := w.heap.size) (v1 := .slice a1 l1.length c1) (v2 := .slice a3 l3.length c3) (xs := l1) (ys := l3) s1 s3 e1 e3 w' r1' r3' o1 o3
  rw [unhide HW1, unhide HD1, unhide HQ1] at mkA
  have mkB := fun w' r1' r3' => add4_spec (b1 := b2) (l1 := w2l) (h1 := w.heap.size) (b2 := b4) (l2 := w4l) (h2 := w.heap.size) (v1 := .slice a2 l2.length c2) (v2 := .slice a4 l4.length c4) (xs := l2) (ys := l4) s2 s4 e2 e4 w' r1' r3' o2 o4
  rw [unhide HW2, unhide HD2, unhide HQ2] at mkB
  have kd := (Kept.refl 0 0 W).drew
  replace r1 := r1.kp kd
  replace r2 := r2.kp kd
  replace r3 := r3.kp kd
  replace r4 := r4.kp kd
  replace Rf0 := kd.loose0 (zbl R0) Rf0
  replace Rf1 := kd.loose0 (zbl R1) Rf1
  replace Rf2 := kd.loose0 (zbl R2) Rf2
  replace Rf3 := kd.loose0 (zbl R3) Rf3
  replace Rf4 := kd.loose0 (zbl R4) Rf4
  replace Rf5 := kd.loose0 (zbl R5) Rf5
  replace bp0 := kd.cell0 bp0
  replace bp1 := kd.cell0 bp1
  replace bp2 := kd.cell0 bp2
  replace bp3 := kd.cell0 bp3
  replace bp4 := kd.cell0 bp4
  replace bp5 := kd.cell0 bp5
  replace bq0 := kd.cell0 bq0
  replace bq1 := kd.cell0 bq1
  replace bq2 := kd.cell0 bq2
  replace bq3 := kd.cell0 bq3
  replace bq4 := kd.cell0 bq4
  replace bq5 := kd.cell0 bq5
  replace R0 := kd.cell0 R0
  replace R1 := kd.cell0 R1
  replace R2 := kd.cell0 R2
  replace R3 := kd.cell0 R3
  replace R4 := kd.cell0 R4
  replace R5 := kd.cell0 R5
  replace K := hide ((unhide K).trans kd)
  have z1 := kd.size
  clear kd
  refine wp_region_held_drew (S := (fun w' => w'.cell? ⟨w.heap.size, 0, none⟩ = some (.bool s1) ∧ w'.cell? ⟨w.heap.size, 1, none⟩ = some (.slice a1 l1.length c1) ∧ w'.cell? ⟨w.heap.size, 2, none⟩ = some (.int .i64 e1) ∧ w'.cell? ⟨w.heap.size, 3, none⟩ = some (.bool s2) ∧ w'.cell? ⟨w.heap.size, 4, none⟩ = some (.slice a2 l2.length c2) ∧ w'.cell? ⟨w.heap.size, 5, none⟩ = some (.int .i64 e2) ∧ w'.cell? ⟨w.heap.size + 1, 0, none⟩ = some (.bool s3) ∧ w'.cell? ⟨w.heap.size + 1, 1, none⟩ = some (.slice a3 l3.length c3) ∧ w'.cell? ⟨w.heap.size + 1, 2, none⟩ = some (.int .i64 e3) ∧ w'.cell? ⟨w.heap.size + 1, 3, none⟩ = some (.bool s4) ∧ w'.cell? ⟨w.heap.size + 1, 4, none⟩ = some (.slice a4 l4.length c4) ∧ w'.cell? ⟨w.heap.size + 1, 5, none⟩ = some (.int .i64 e4))) (by kernel_rfl) ?_ (fun hH => ?_)
  ·exact ⟨bp0, bp1, bp2, bp3, bp4, bp5, bq0, bq1, bq2, bq3, bq4, bq5⟩
  refine wpAnyH_take (i := 0) (v := .pointer (some ⟨w.heap.size, 0, none⟩)) rfl (by kernel_rfl) (by kernel_rfl) (by kernel_rfl) (fun _ _ _ h => h) (Or.inl ⟨by rfl, ?_⟩) hH ?_
  ·intro wq hSw
   try dsimp only at hSw
   go_simp
  try simp only [Act.put, zq1, zq2, zq3, zq4, zq5, zq6]
  refine wpAnyH_take (i := 1) (v := .agg #[.bool s1, .slice a1 l1.length c1, .int .i64 e1]) rfl (by kernel_rfl) (by kernel_rfl) (by kernel_rfl) (fun _ _ _ h => h) (Or.inl ⟨by rfl, ?_⟩) hH ?_
  ·intro wq hSw
   try dsimp only at hSw
   go_simp
  try simp only [Act.put, zq1, zq2, zq3, zq4, zq5, zq6]
  refine wpAnyH_take (i := 2) (v := .pointer (some ⟨w.heap.size + 1, 0, none⟩)) rfl (by kernel_rfl) (by kernel_rfl) (by kernel_rfl) (fun _ _ _ h => h) (Or.inl ⟨by rfl, ?_⟩) hH ?_
  ·intro wq hSw
   try dsimp only at hSw
   go_simp
  try simp only [Act.put, zq1, zq2, zq3, zq4, zq5, zq6]
  refine wpAnyH_take (i := 3) (v := .agg #[.bool s3, .slice a3 l3.length c3, .int .i64 e3]) rfl (by kernel_rfl) (by kernel_rfl) (by kernel_rfl) (fun _ _ _ h => h) (Or.inl ⟨by rfl, ?_⟩) hH ?_
  ·intro wq hSw
   try dsimp only at hSw
   go_simp
  try simp only [Act.put, zq1, zq2, zq3, zq4, zq5, zq6]
  refine wpAnyH_take (i := 5) (v := .pointer (some ⟨w.heap.size, 3, none⟩)) rfl (by kernel_rfl) (by kernel_rfl) (by kernel_rfl) (fun _ _ _ h => h) (Or.inl ⟨by rfl, ?_⟩) hH ?_
  ·intro wq hSw
   try dsimp only at hSw
   go_simp
  try simp only [Act.put, zq1, zq2, zq3, zq4, zq5, zq6]
  refine wpAnyH_take (i := 6) (v := .agg #[.bool s2, .slice a2 l2.length c2, .int .i64 e2]) rfl (by kernel_rfl) (by kernel_rfl) (by kernel_rfl) (fun _ _ _ h => h) (Or.inl ⟨by rfl, ?_⟩) hH ?_
  ·intro wq hSw
   try dsimp only at hSw
   go_simp
  try simp only [Act.put, zq1, zq2, zq3, zq4, zq5, zq6]
  refine wpAnyH_take (i := 7) (v := .pointer (some ⟨w.heap.size + 1, 3, none⟩)) rfl (by kernel_rfl) (by kernel_rfl) (by kernel_rfl) (fun _ _ _ h => h) (Or.inl ⟨by rfl, ?_⟩) hH ?_
  ·intro wq hSw
   try dsimp only at hSw
   go_simp
  try simp only [Act.put, zq1, zq2, zq3, zq4, zq5, zq6]
  refine wpAnyH_take (i := 8) (v := .agg #[.bool s4, .slice a4 l4.length c4, .int .i64 e4]) rfl (by kernel_rfl) (by kernel_rfl) (by kernel_rfl) (fun _ _ _ h => h) (Or.inl ⟨by rfl, ?_⟩) hH ?_
  ·intro wq hSw
   try dsimp only at hSw
   go_simp
  try simp only [Act.put, zq1, zq2, zq3, zq4, zq5, zq6]
  refine wpAnyH_ready (rs := [4]) (by kernel_rfl) (by simp) ?_
  refine AllReadyH.cons rfl (fun KK hK => ?_) AllReadyH.nil
  simp only [zq1, zq2, zq3]
  rw [if_pos (by rfl)]
  refine wps2 44 (.tmp 6) (.tmp 8) _ rfl in_l4add (.agg #[.bool s1, .slice a1 l1.length c1, .int .i64 e1]) (.agg #[.bool s3, .slice a3 l3.length c3, .int .i64 e3]) rfl rfl (mkA _ r1 r3) ?_
  rintro e w2 ⟨vA, rfl, rA, k2⟩
  refine ⟨_, rfl, ?_⟩
  replace r1 := r1.kp k2
  replace r2 := r2.kp k2
  replace r3 := r3.kp k2
  replace r4 := r4.kp k2
  replace Rf0 := k2.loose0 (zbl R0) Rf0
  replace Rf1 := k2.loose0 (zbl R1) Rf1
  replace Rf2 := k2.loose0 (zbl R2) Rf2
  replace Rf3 := k2.loose0 (zbl R3) Rf3
  replace Rf4 := k2.loose0 (zbl R4) Rf4
  replace Rf5 := k2.loose0 (zbl R5) Rf5
  replace bp0 := k2.cell0 bp0
  replace bp1 := k2.cell0 bp1
  replace bp2 := k2.cell0 bp2
  replace bp3 := k2.cell0 bp3
  replace bp4 := k2.cell0 bp4
  replace bp5 := k2.cell0 bp5
  replace bq0 := k2.cell0 bq0
  replace bq1 := k2.cell0 bq1
  replace bq2 := k2.cell0 bq2
  replace bq3 := k2.cell0 bq3
  replace bq4 := k2.cell0 bq4
  replace bq5 := k2.cell0 bq5
  replace R0 := k2.cell0 R0
  replace R1 := k2.cell0 R1
  replace R2 := k2.cell0 R2
  replace R3 := k2.cell0 R3
  replace R4 := k2.cell0 R4
  replace R5 := k2.cell0 R5
  replace K := hide ((unhide K).trans k2)
  have z3 := k2.size
  clear k2
  clear hH
  refine hK.out _ _ ?_ (fun hH => ?_)
  ·exact ⟨bp0, bp1, bp2, bp3, bp4, bp5, bq0, bq1, bq2, bq3, bq4, bq5⟩
  clear hK KK
  try simp only [Act.put, zq1, zq2, zq3, zq4, zq5, zq6]
  obtain ⟨aA, cA, hv⟩ := Row.form' rA
  subst hv
  refine wpAnyH_ready (rs := [9]) (by kernel_rfl) (by simp) ?_
  refine AllReadyH.cons rfl (fun KK hK => ?_) AllReadyH.nil
  simp only [zq1, zq2, zq3]
  rw [if_pos (by rfl)]
  refine wps2 44 (.tmp 11) (.tmp 13) _ rfl in_l4add (.agg #[.bool s2, .slice a2 l2.length c2, .int .i64 e2]) (.agg #[.bool s4, .slice a4 l4.length c4, .int .i64 e4]) rfl rfl (mkB _ r2 r4) ?_
  rintro e w4 ⟨vB, rfl, rB, k4⟩
  refine ⟨_, rfl, ?_⟩
  replace r1 := r1.kp k4
  replace r2 := r2.kp k4
  replace r3 := r3.kp k4
  replace r4 := r4.kp k4
  replace rA := rA.kp k4
  replace Rf0 := k4.loose0 (zbl R0) Rf0
  replace Rf1 := k4.loose0 (zbl R1) Rf1
  replace Rf2 := k4.loose0 (zbl R2) Rf2
  replace Rf3 := k4.loose0 (zbl R3) Rf3
  replace Rf4 := k4.loose0 (zbl R4) Rf4
  replace Rf5 := k4.loose0 (zbl R5) Rf5
  replace bp0 := k4.cell0 bp0
  replace bp1 := k4.cell0 bp1
  replace bp2 := k4.cell0 bp2
  replace bp3 := k4.cell0 bp3
  replace bp4 := k4.cell0 bp4
  replace bp5 := k4.cell0 bp5
  replace bq0 := k4.cell0 bq0
  replace bq1 := k4.cell0 bq1
  replace bq2 := k4.cell0 bq2
  replace bq3 := k4.cell0 bq3
  replace bq4 := k4.cell0 bq4
  replace bq5 := k4.cell0 bq5
  replace R0 := k4.cell0 R0
  replace R1 := k4.cell0 R1
  replace R2 := k4.cell0 R2
  replace R3 := k4.cell0 R3
  replace R4 := k4.cell0 R4
  replace R5 := k4.cell0 R5
  replace K := hide ((unhide K).trans k4)
  have z5 := k4.size
  clear k4
  clear hH
  refine hK.out _ _ ?_ (fun hH => ?_)
  ·exact ⟨bp0, bp1, bp2, bp3, bp4, bp5, bq0, bq1, bq2, bq3, bq4, bq5⟩
  clear hK KK
  try simp only [Act.put, zq1, zq2, zq3, zq4, zq5, zq6]
  obtain ⟨aB, cB, hv⟩ := Row.form' rB
  subst hv
  refine wpAnyH_take (i := 10) (v := .agg #[.bool W1, .slice aA Q1.length cA, .int .i64 D1, .bool W2, .slice aB Q2.length cB, .int .i64 D2]) rfl (by kernel_rfl) (by kernel_rfl) (by kernel_rfl) (fun _ _ _ h => h) (Or.inl ⟨by rfl, ?_⟩) hH ?_
  ·intro wq hSw
   try dsimp only at hSw
   go_simp
  try simp only [Act.put, zq1, zq2, zq3, zq4, zq5, zq6]
  refine wpAnyH_ready (rs := [11]) (by kernel_rfl) (by simp) ?_
  refine AllReadyH.cons rfl (fun KK hK => ?_) AllReadyH.nil
  simp only [zq1, zq2, zq3]
  rw [if_pos (by rfl)]
  go_simp
  clear hH
  refine hK.out _ _ ?_ (fun hH => ?_)
  ·exact ⟨(cw6 (by have := unhide S0; dsimp only; omega) bp0), (cw6 (by have := unhide S0; dsimp only; omega) bp1), (cw6 (by have := unhide S0; dsimp only; omega) bp2), (cw6 (by have := unhide S0; dsimp only; omega) bp3), (cw6 (by have := unhide S0; dsimp only; omega) bp4), (cw6 (by have := unhide S0; dsimp only; omega) bp5), (cw6 (by have := unhide S0; dsimp only; omega) bq0), (cw6 (by have := unhide S0; dsimp only; omega) bq1), (cw6 (by have := unhide S0; dsimp only; omega) bq2), (cw6 (by have := unhide S0; dsimp only; omega) bq3), (cw6 (by have := unhide S0; dsimp only; omega) bq4), (cw6 (by have := unhide S0; dsimp only; omega) bq5)⟩
  clear hK KK
  try simp only [Act.put, zq1, zq2, zq3, zq4, zq5, zq6]
  refine wpAnyH_done (by kernel_rfl) ?_ _
  clear hH
  clear mkA mkB
  have RA := hide (((((((rA.set_other (p := ⟨w.heap.size + 2, 0, none⟩) (.inl (by have := unhide S0; dsimp only; omega)) (.bool W1)).set_other (p := ⟨w.heap.size + 2, 1, none⟩) (.inl (by have := unhide S0; dsimp only; omega)) (.slice aA Q1.length cA)).set_other (p := ⟨w.heap.size + 2, 2, none⟩) (.inl (by have := unhide S0; dsimp only; omega)) (.int .i64 D1)).set_other (p := ⟨w.heap.size + 2, 3, none⟩) (.inl (by have := unhide S0; dsimp only; omega)) (.bool W2)).set_other (p := ⟨w.heap.size + 2, 4, none⟩) (.inl (by have := unhide S0; dsimp only; omega)) (.slice aB Q2.length cB)).set_other (p := ⟨w.heap.size + 2, 5, none⟩) (.inl (by have := unhide S0; dsimp only; omega)) (.int .i64 D2)).tight.wider (lo' := w.heap.size) (by have := unhide S0; omega) (Nat.le_refl _))
  have RB := hide (((((((rB.set_other (p := ⟨w.heap.size + 2, 0, none⟩) (.inl (by have := unhide S0; dsimp only; omega)) (.bool W1)).set_other (p := ⟨w.heap.size + 2, 1, none⟩) (.inl (by have := unhide S0; dsimp only; omega)) (.slice aA Q1.length cA)).set_other (p := ⟨w.heap.size + 2, 2, none⟩) (.inl (by have := unhide S0; dsimp only; omega)) (.int .i64 D1)).set_other (p := ⟨w.heap.size + 2, 3, none⟩) (.inl (by have := unhide S0; dsimp only; omega)) (.bool W2)).set_other (p := ⟨w.heap.size + 2, 4, none⟩) (.inl (by have := unhide S0; dsimp only; omega)) (.slice aB Q2.length cB)).set_other (p := ⟨w.heap.size + 2, 5, none⟩) (.inl (by have := unhide S0; dsimp only; omega)) (.int .i64 D2)).tight.wider (lo' := w.heap.size) (by have := unhide S0; omega) (Nat.le_refl _))
  have K7 := hide (((((((unhide K).setNew (p := ⟨w.heap.size + 2, 0, none⟩) (by simp) (.bool W1)).setNew (p := ⟨w.heap.size + 2, 1, none⟩) (by simp) (.slice aA Q1.length cA)).setNew (p := ⟨w.heap.size + 2, 2, none⟩) (by simp) (.int .i64 D1)).setNew (p := ⟨w.heap.size + 2, 3, none⟩) (by simp) (.bool W2)).setNew (p := ⟨w.heap.size + 2, 4, none⟩) (by simp) (.slice aB Q2.length cB)).setNew (p := ⟨w.heap.size + 2, 5, none⟩) (by simp) (.int .i64 D2))
  clear r1 r2 r3 r4 rA rB K
  go_wp2_with fail
  exact bodyPost_ret (v := .agg #[.bool W1, .slice aA Q1.length cA, .int .i64 D1, .bool W2, .slice aB Q2.length cB, .int .i64 D2]) (by simp [results, Tryd.results36, go_sem, R0, R1, R2, R3, R4, R5]) rfl ⟨_, _, rfl, unhide RA, unhide RB, unhide K7⟩

set_option maxHeartbeats 4000000 in
theorem ivadd_spec {b1 b2 b3 b4 : Bool} {w1l w1h w2l w2h w3l w3h w4l w4h : Nat} {v1 v2 v3 v4 : Value} {l1 l2 l3 l4 : List Int} (s1 : Bool) (e1 : Int) (hu1 : e1 ≤ 9223372036854775807) (hd1 : -9223372036854775808 ≤ e1) (s2 : Bool) (e2 : Int) (hu2 : e2 ≤ 9223372036854775807) (hd2 : -9223372036854775808 ≤ e2) (s3 : Bool) (e3 : Int) (hu3 : e3 ≤ 9223372036854775807) (hd3 : -9223372036854775808 ≤ e3) (s4 : Bool) (e4 : Int) (hu4 : e4 ≤ 9223372036854775807) (hd4 : -9223372036854775808 ≤ e4) (w : World) (r1 : Row .i64 b1 w1l w1h w v1 l1) (r2 : Row .i64 b2 w2l w2h w v2 l2) (r3 : Row .i64 b3 w3l w3h w v3 l3) (r4 : Row .i64 b4 w4l w4h w v4 l4) :
    Calls Tryd.prog 17 #[.agg #[.bool s1, v1, .int .i64 e1, .bool s2, v2, .int .i64 e2], .agg #[.bool s3, v3, .int .i64 e3, .bool s4, v4, .int .i64 e4]] w fun e w' => IvAnsS (ivC (iokB s1 l1 e1 s2 l2 e2 && iokB s3 l3 e3 s4 l4 e4) (wval s1 l1 * 2 ^ (e1 - min e1 e3).toNat + wval s3 l3 * 2 ^ (e3 - min e1 e3).toNat) (min e1 e3) (wval s2 l2 * 2 ^ (e2 - min e2 e4).toNat + wval s4 l4 * 2 ^ (e4 - min e2 e4).toNat) (min e2 e4)) (wsg (wval s1 l1 * 2 ^ (e1 - min e1 e3).toNat + wval s3 l3 * 2 ^ (e3 - min e1 e3).toNat)) (dex (wval s1 l1 * 2 ^ (e1 - min e1 e3).toNat + wval s3 l3 * 2 ^ (e3 - min e1 e3).toNat) (min e1 e3)) (dlm (wval s1 l1 * 2 ^ (e1 - min e1 e3).toNat + wval s3 l3 * 2 ^ (e3 - min e1 e3).toNat)) (wsg (wval s2 l2 * 2 ^ (e2 - min e2 e4).toNat + wval s4 l4 * 2 ^ (e4 - min e2 e4).toNat)) (dex (wval s2 l2 * 2 ^ (e2 - min e2 e4).toNat + wval s4 l4 * 2 ^ (e4 - min e2 e4).toNat) (min e2 e4)) (dlm (wval s2 l2 * 2 ^ (e2 - min e2 e4).toNat + wval s4 l4 * 2 ^ (e4 - min e2 e4).toNat)) w e w' := by
  replace r1 := r1.tight
  replace r2 := r2.tight
  replace r3 := r3.tight
  replace r4 := r4.tight
  obtain ⟨CC, hCC⟩ : ∃ c, ivC (iokB s1 l1 e1 s2 l2 e2 && iokB s3 l3 e3 s4 l4 e4) (wval s1 l1 * 2 ^ (e1 - min e1 e3).toNat + wval s3 l3 * 2 ^ (e3 - min e1 e3).toNat) (min e1 e3) (wval s2 l2 * 2 ^ (e2 - min e2 e4).toNat + wval s4 l4 * 2 ^ (e4 - min e2 e4).toNat) (min e2 e4) = c := ⟨_, rfl⟩
  rw [hCC]
  have HCC := hide hCC
  clear hCC
  obtain ⟨W1, hW1⟩ : ∃ c, wsg (wval s1 l1 * 2 ^ (e1 - min e1 e3).toNat + wval s3 l3 * 2 ^ (e3 - min e1 e3).toNat) = c := ⟨_, rfl⟩
  obtain ⟨D1, hD1⟩ : ∃ c, dex (wval s1 l1 * 2 ^ (e1 - min e1 e3).toNat + wval s3 l3 * 2 ^ (e3 - min e1 e3).toNat) (min e1 e3) = c := ⟨_, rfl⟩
  obtain ⟨Q1, hQ1⟩ : ∃ c, dlm (wval s1 l1 * 2 ^ (e1 - min e1 e3).toNat + wval s3 l3 * 2 ^ (e3 - min e1 e3).toNat) = c := ⟨_, rfl⟩
  obtain ⟨W2, hW2⟩ : ∃ c, wsg (wval s2 l2 * 2 ^ (e2 - min e2 e4).toNat + wval s4 l4 * 2 ^ (e4 - min e2 e4).toNat) = c := ⟨_, rfl⟩
  obtain ⟨D2, hD2⟩ : ∃ c, dex (wval s2 l2 * 2 ^ (e2 - min e2 e4).toNat + wval s4 l4 * 2 ^ (e4 - min e2 e4).toNat) (min e2 e4) = c := ⟨_, rfl⟩
  obtain ⟨Q2, hQ2⟩ : ∃ c, dlm (wval s2 l2 * 2 ^ (e2 - min e2 e4).toNat + wval s4 l4 * 2 ^ (e4 - min e2 e4).toNat) = c := ⟨_, rfl⟩
  try rw [hW1]
  try rw [hD1]
  try rw [hQ1]
  try rw [hW2]
  try rw [hD2]
  try rw [hQ2]
  have HW1 := hide hW1
  clear hW1
  have HD1 := hide hD1
  clear hD1
  have HQ1 := hide hQ1
  clear hQ1
  have HW2 := hide hW2
  clear hW2
  have HD2 := hide hD2
  clear hD2
  have HQ2 := hide hQ2
  clear hQ2
  obtain ⟨Wn, hn0⟩ : ∃ wz, wz = (((w.alloc (.cells #[.bool s1, v1, .int .i64 e1, .bool s2, v2, .int .i64 e2] 36)).alloc (.cells #[.bool s3, v3, .int .i64 e3, .bool s4, v4, .int .i64 e4] 36)).alloc (.cells #[.bool false, .slice none 0 0, .int .i64 0, .bool false, .slice none 0 0, .int .i64 0] 36)) := ⟨_, rfl⟩
  have k0 : Kept 0 0 w Wn := by rw [hn0]; exact ((((Kept.refl 0 0 w).alloc _).alloc _).alloc _)
  have bp0 : Wn.cell? ⟨w.heap.size, 0, none⟩ = some (.bool s1) := by rw [hn0]; exact old_cell _ (old_cell _ (new_cell2 _ _ _ _ _ _ (by simp) rfl))
  have bp1 : Wn.cell? ⟨w.heap.size, 1, none⟩ = some (v1) := by rw [hn0]; exact old_cell _ (old_cell _ (new_cell2 _ _ _ _ _ _ (by simp) rfl))
  have bp2 : Wn.cell? ⟨w.heap.size, 2, none⟩ = some (.int .i64 e1) := by rw [hn0]; exact old_cell _ (old_cell _ (new_cell2 _ _ _ _ _ _ (by simp) rfl))
  have bp3 : Wn.cell? ⟨w.heap.size, 3, none⟩ = some (.bool s2) := by rw [hn0]; exact old_cell _ (old_cell _ (new_cell2 _ _ _ _ _ _ (by simp) rfl))
  have bp4 : Wn.cell? ⟨w.heap.size, 4, none⟩ = some (v2) := by rw [hn0]; exact old_cell _ (old_cell _ (new_cell2 _ _ _ _ _ _ (by simp) rfl))
  have bp5 : Wn.cell? ⟨w.heap.size, 5, none⟩ = some (.int .i64 e2) := by rw [hn0]; exact old_cell _ (old_cell _ (new_cell2 _ _ _ _ _ _ (by simp) rfl))
  have bq0 : Wn.cell? ⟨w.heap.size + 1, 0, none⟩ = some (.bool s3) := by rw [hn0]; exact old_cell _ (new_cell2 _ _ _ _ _ _ (by simp) rfl)
  have bq1 : Wn.cell? ⟨w.heap.size + 1, 1, none⟩ = some (v3) := by rw [hn0]; exact old_cell _ (new_cell2 _ _ _ _ _ _ (by simp) rfl)
  have bq2 : Wn.cell? ⟨w.heap.size + 1, 2, none⟩ = some (.int .i64 e3) := by rw [hn0]; exact old_cell _ (new_cell2 _ _ _ _ _ _ (by simp) rfl)
  have bq3 : Wn.cell? ⟨w.heap.size + 1, 3, none⟩ = some (.bool s4) := by rw [hn0]; exact old_cell _ (new_cell2 _ _ _ _ _ _ (by simp) rfl)
  have bq4 : Wn.cell? ⟨w.heap.size + 1, 4, none⟩ = some (v4) := by rw [hn0]; exact old_cell _ (new_cell2 _ _ _ _ _ _ (by simp) rfl)
  have bq5 : Wn.cell? ⟨w.heap.size + 1, 5, none⟩ = some (.int .i64 e4) := by rw [hn0]; exact old_cell _ (new_cell2 _ _ _ _ _ _ (by simp) rfl)
  have R0 : Wn.cell? ⟨w.heap.size + 2, 0, none⟩ = some (.bool false) := by rw [hn0]; exact new_cell2 _ _ _ _ _ _ (by simp) rfl
  have Rf0 : Wn.frozen? ⟨w.heap.size + 2, 0, none⟩ = false := by rw [hn0]; exact new_loose2 _ _ _ _ _ (by simp)
  have R1 : Wn.cell? ⟨w.heap.size + 2, 1, none⟩ = some (.slice none 0 0) := by rw [hn0]; exact new_cell2 _ _ _ _ _ _ (by simp) rfl
  have Rf1 : Wn.frozen? ⟨w.heap.size + 2, 1, none⟩ = false := by rw [hn0]; exact new_loose2 _ _ _ _ _ (by simp)
  have R2 : Wn.cell? ⟨w.heap.size + 2, 2, none⟩ = some (.int .i64 0) := by rw [hn0]; exact new_cell2 _ _ _ _ _ _ (by simp) rfl
  have Rf2 : Wn.frozen? ⟨w.heap.size + 2, 2, none⟩ = false := by rw [hn0]; exact new_loose2 _ _ _ _ _ (by simp)
  have R3 : Wn.cell? ⟨w.heap.size + 2, 3, none⟩ = some (.bool false) := by rw [hn0]; exact new_cell2 _ _ _ _ _ _ (by simp) rfl
  have Rf3 : Wn.frozen? ⟨w.heap.size + 2, 3, none⟩ = false := by rw [hn0]; exact new_loose2 _ _ _ _ _ (by simp)
  have R4 : Wn.cell? ⟨w.heap.size + 2, 4, none⟩ = some (.slice none 0 0) := by rw [hn0]; exact new_cell2 _ _ _ _ _ _ (by simp) rfl
  have Rf4 : Wn.frozen? ⟨w.heap.size + 2, 4, none⟩ = false := by rw [hn0]; exact new_loose2 _ _ _ _ _ (by simp)
  have R5 : Wn.cell? ⟨w.heap.size + 2, 5, none⟩ = some (.int .i64 0) := by rw [hn0]; exact new_cell2 _ _ _ _ _ _ (by simp) rfl
  have Rf5 : Wn.frozen? ⟨w.heap.size + 2, 5, none⟩ = false := by rw [hn0]; exact new_loose2 _ _ _ _ _ (by simp)
  subst hn0
  replace r1 := r1.kept k0 (by omega)
  replace r2 := r2.kept k0 (by omega)
  replace r3 := r3.kept k0 (by omega)
  replace r4 := r4.kept k0 (by omega)
  have s0 : (((w.alloc (.cells #[.bool s1, v1, .int .i64 e1, .bool s2, v2, .int .i64 e2] 36)).alloc (.cells #[.bool s3, v3, .int .i64 e3, .bool s4, v4, .int .i64 e4] 36)).alloc (.cells #[.bool false, .slice none 0 0, .int .i64 0, .bool false, .slice none 0 0, .int .i64 0] 36)).heap.size = w.heap.size + 3 := by simp
  obtain ⟨a1, c1, hv⟩ := Row.form' r1
  subst hv
  obtain ⟨a2, c2, hv⟩ := Row.form' r2
  subst hv
  obtain ⟨a3, c3, hv⟩ := Row.form' r3
  subst hv
  obtain ⟨a4, c4, hv⟩ := Row.form' r4
  subst hv
  have K := hide (k0)
  clear k0
  have S0 := hide s0
  clear s0
  go_enter Tryd.func17, Tryd.ntmps17
  go_wp2_with fail
  generalize (((w.alloc (.cells #[.bool s1, .slice a1 l1.length c1, .int .i64 e1, .bool s2, .slice a2 l2.length c2, .int .i64 e2] 36)).alloc (.cells #[.bool s3, .slice a3 l3.length c3, .int .i64 e3, .bool s4, .slice a4 l4.length c4, .int .i64 e4] 36)).alloc (.cells #[.bool false, .slice none 0 0, .int .i64 0, .bool false, .slice none 0 0, .int .i64 0] 36)) = W at *
  refine (ivok_spec s1 e1 hu1 hd1 s2 e2 hu2 hd2 _ r1 r2).mono ?_
  rintro e w1 ⟨rfl, k1⟩
  replace r1 := r1.kp k1
  replace r2 := r2.kp k1
  replace r3 := r3.kp k1
  replace r4 := r4.kp k1
  replace Rf0 := k1.loose0 (zbl R0) Rf0
  replace Rf1 := k1.loose0 (zbl R1) Rf1
  replace Rf2 := k1.loose0 (zbl R2) Rf2
  replace Rf3 := k1.loose0 (zbl R3) Rf3
  replace Rf4 := k1.loose0 (zbl R4) Rf4
  replace Rf5 := k1.loose0 (zbl R5) Rf5
  replace bp0 := k1.cell0 bp0
  replace bp1 := k1.cell0 bp1
  replace bp2 := k1.cell0 bp2
  replace bp3 := k1.cell0 bp3
  replace bp4 := k1.cell0 bp4
  replace bp5 := k1.cell0 bp5
  replace bq0 := k1.cell0 bq0
  replace bq1 := k1.cell0 bq1
  replace bq2 := k1.cell0 bq2
  replace bq3 := k1.cell0 bq3
  replace bq4 := k1.cell0 bq4
  replace bq5 := k1.cell0 bq5
  replace R0 := k1.cell0 R0
  replace R1 := k1.cell0 R1
  replace R2 := k1.cell0 R2
  replace R3 := k1.cell0 R3
  replace R4 := k1.cell0 R4
  replace R5 := k1.cell0 R5
  replace K := hide ((unhide K).trans k1)
  have z2 := k1.size
  clear k1
  cases ho : iokB s1 l1 e1 s2 l2 e2
  ·have EC : Hid (CC = false) := by show _ = _; rw [← unhide HCC]; exact ivC_no (by rw [ho]; rfl)
   have K7 := hide (((((((unhide K).setNew (p := ⟨w.heap.size + 2, 0, none⟩) (by simp) (.bool false)).setNew (p := ⟨w.heap.size + 2, 1, none⟩) (by simp) (.slice none 0 0)).setNew (p := ⟨w.heap.size + 2, 2, none⟩) (by simp) (.int .i64 0)).setNew (p := ⟨w.heap.size + 2, 3, none⟩) (by simp) (.bool false)).setNew (p := ⟨w.heap.size + 2, 4, none⟩) (by simp) (.slice none 0 0)).setNew (p := ⟨w.heap.size + 2, 5, none⟩) (by simp) (.int .i64 0))
   clear r1 r2 r3 r4 K
   go_wp2_with fail
   exact bodyPost_ret (v := .tuple #[.agg #[.bool false, .slice none 0 0, .int .i64 0, .bool false, .slice none 0 0, .int .i64 0], .bool false]) (by simp [results, Tryd.results17, go_sem, R0, R1, R2, R3, R4, R5]) rfl (by rw [unhide EC]; exact ivS_no (unhide K7))
  obtain ⟨i1, i2, -⟩ := iok_parts ho
  have I1 := hide i1
  have I2 := hide i2
  have HO := hide ho
  clear ho i1 i2
  go_wp2_with fail
  refine (ivok_spec s3 e3 hu3 hd3 s4 e4 hu4 hd4 _ r3 r4).mono ?_
  rintro e w3 ⟨rfl, k3⟩
  replace r1 := r1.kp k3
  replace r2 := r2.kp k3
  replace r3 := r3.kp k3
  replace r4 := r4.kp k3
  replace Rf0 := k3.loose0 (zbl R0) Rf0
  replace Rf1 := k3.loose0 (zbl R1) Rf1
  replace Rf2 := k3.loose0 (zbl R2) Rf2
  replace Rf3 := k3.loose0 (zbl R3) Rf3
  replace Rf4 := k3.loose0 (zbl R4) Rf4
  replace Rf5 := k3.loose0 (zbl R5) Rf5
  replace bp0 := k3.cell0 bp0
  replace bp1 := k3.cell0 bp1
  replace bp2 := k3.cell0 bp2
  replace bp3 := k3.cell0 bp3
  replace bp4 := k3.cell0 bp4
  replace bp5 := k3.cell0 bp5
  replace bq0 := k3.cell0 bq0
  replace bq1 := k3.cell0 bq1
  replace bq2 := k3.cell0 bq2
  replace bq3 := k3.cell0 bq3
  replace bq4 := k3.cell0 bq4
  replace bq5 := k3.cell0 bq5
  replace R0 := k3.cell0 R0
  replace R1 := k3.cell0 R1
  replace R2 := k3.cell0 R2
  replace R3 := k3.cell0 R3
  replace R4 := k3.cell0 R4
  replace R5 := k3.cell0 R5
  replace K := hide ((unhide K).trans k3)
  have z4 := k3.size
  clear k3
  cases ho : iokB s3 l3 e3 s4 l4 e4
  ·have EC : Hid (CC = false) := by show _ = _; rw [← unhide HCC]; exact ivC_no (by rw [ho, unhide HO]; rfl)
   have K7 := hide (((((((unhide K).setNew (p := ⟨w.heap.size + 2, 0, none⟩) (by simp) (.bool false)).setNew (p := ⟨w.heap.size + 2, 1, none⟩) (by simp) (.slice none 0 0)).setNew (p := ⟨w.heap.size + 2, 2, none⟩) (by simp) (.int .i64 0)).setNew (p := ⟨w.heap.size + 2, 3, none⟩) (by simp) (.bool false)).setNew (p := ⟨w.heap.size + 2, 4, none⟩) (by simp) (.slice none 0 0)).setNew (p := ⟨w.heap.size + 2, 5, none⟩) (by simp) (.int .i64 0))
   clear r1 r2 r3 r4 K
   go_wp2_with fail
   exact bodyPost_ret (v := .tuple #[.agg #[.bool false, .slice none 0 0, .int .i64 0, .bool false, .slice none 0 0, .int .i64 0], .bool false]) (by simp [results, Tryd.results17, go_sem, R0, R1, R2, R3, R4, R5]) rfl (by rw [unhide EC]; exact ivS_no (unhide K7))
  obtain ⟨i3, i4, -⟩ := iok_parts ho
  have I3 := hide i3
  have I4 := hide i4
  have HC : Hid ((iokB s1 l1 e1 s2 l2 e2 && iokB s3 l3 e3 s4 l4 e4) = true) := by show _ = _; rw [ho, unhide HO]; rfl
  clear ho i3 i4
  have mkf : ∀ w' vA vB lo' hi', Row .i64 true lo' hi' w' vA Q1 → Row .i64 true lo' hi' w' vB Q2 → Calls Tryd.prog 27 #[.agg #[.bool W1, vA, .int .i64 D1, .bool W2, vB, .int .i64 D2]] w' fun e w'' => IvAnsS CC W1 D1 Q1 W2 D2 Q2 w' e w'' := fun w' vA vB lo' hi' rA' rB' => by
   have rg1 := sum_rg (unhide I1) (unhide I3)
   have rg2 := sum_rg (unhide I2) (unhide I4)
   rw [unhide HD1] at rg1
   rw [unhide HD2] at rg2
   have mk := fits7_spec W1 D1 rg1.1 rg1.2 W2 D2 rg2.1 rg2.2 w' rA' rB'
   have hcc := unhide HCC
   unfold ivC at hcc
   rw [unhide HC, unhide HW1, unhide HD1, unhide HQ1, unhide HW2, unhide HD2, unhide HQ2, Bool.true_and] at hcc
   rw [hcc] at mk
   exact mk
  go_wp2_with fail
  have mk := add7_spec s1 e1 s2 e2 s3 e3 s4 e4 w3 r1 r2 r3 r4 (unhide I1) (unhide I2) (unhide I3) (unhide I4)
  rw [unhide HW1, unhide HD1, unhide HQ1, unhide HW2, unhide HD2, unhide HQ2] at mk
  refine (mk).mono ?_
  rintro e w5 ⟨vA, vB, rfl, rA, rB, k5⟩
  replace r1 := r1.kp k5
  replace r2 := r2.kp k5
  replace r3 := r3.kp k5
  replace r4 := r4.kp k5
  replace Rf0 := k5.loose0 (zbl R0) Rf0
  replace Rf1 := k5.loose0 (zbl R1) Rf1
  replace Rf2 := k5.loose0 (zbl R2) Rf2
  replace Rf3 := k5.loose0 (zbl R3) Rf3
  replace Rf4 := k5.loose0 (zbl R4) Rf4
  replace Rf5 := k5.loose0 (zbl R5) Rf5
  replace bp0 := k5.cell0 bp0
  replace bp1 := k5.cell0 bp1
  replace bp2 := k5.cell0 bp2
  replace bp3 := k5.cell0 bp3
  replace bp4 := k5.cell0 bp4
  replace bp5 := k5.cell0 bp5
  replace bq0 := k5.cell0 bq0
  replace bq1 := k5.cell0 bq1
  replace bq2 := k5.cell0 bq2
  replace bq3 := k5.cell0 bq3
  replace bq4 := k5.cell0 bq4
  replace bq5 := k5.cell0 bq5
  replace R0 := k5.cell0 R0
  replace R1 := k5.cell0 R1
  replace R2 := k5.cell0 R2
  replace R3 := k5.cell0 R3
  replace R4 := k5.cell0 R4
  replace R5 := k5.cell0 R5
  replace K := hide ((unhide K).trans k5)
  have z6 := k5.size
  clear k5
  clear mk
  go_wp2_with fail
  refine (mkf _ _ _ _ _ rA rB).mono ?_
  rintro e w7 h5
  obtain ⟨q1, y1, M1, q2, y2, M2, vL, vM, rfl, rL, rM, k5, hq⟩ := ivS_open h5
  have HQ := hide hq
  clear hq h5
  replace r1 := r1.kp k5
  replace r2 := r2.kp k5
  replace r3 := r3.kp k5
  replace r4 := r4.kp k5
  replace rA := rA.kp k5
  replace rB := rB.kp k5
  replace Rf0 := k5.loose0 (zbl R0) Rf0
  replace Rf1 := k5.loose0 (zbl R1) Rf1
  replace Rf2 := k5.loose0 (zbl R2) Rf2
  replace Rf3 := k5.loose0 (zbl R3) Rf3
  replace Rf4 := k5.loose0 (zbl R4) Rf4
  replace Rf5 := k5.loose0 (zbl R5) Rf5
  replace bp0 := k5.cell0 bp0
  replace bp1 := k5.cell0 bp1
  replace bp2 := k5.cell0 bp2
  replace bp3 := k5.cell0 bp3
  replace bp4 := k5.cell0 bp4
  replace bp5 := k5.cell0 bp5
  replace bq0 := k5.cell0 bq0
  replace bq1 := k5.cell0 bq1
  replace bq2 := k5.cell0 bq2
  replace bq3 := k5.cell0 bq3
  replace bq4 := k5.cell0 bq4
  replace bq5 := k5.cell0 bq5
  replace R0 := k5.cell0 R0
  replace R1 := k5.cell0 R1
  replace R2 := k5.cell0 R2
  replace R3 := k5.cell0 R3
  replace R4 := k5.cell0 R4
  replace R5 := k5.cell0 R5
  replace K := hide ((unhide K).trans k5)
  have z8 := k5.size
  clear k5
  obtain ⟨aL, dL, hv⟩ := Row.form' rL
  subst hv
  obtain ⟨aM, dM, hv⟩ := Row.form' rM
  subst hv
  have RA := hide (((((((rL.set_other (p := ⟨w.heap.size + 2, 0, none⟩) (.inl (by have := unhide S0; dsimp only; omega)) (.bool q1)).set_other (p := ⟨w.heap.size + 2, 1, none⟩) (.inl (by have := unhide S0; dsimp only; omega)) (.slice aL M1.length dL)).set_other (p := ⟨w.heap.size + 2, 2, none⟩) (.inl (by have := unhide S0; dsimp only; omega)) (.int .i64 y1)).set_other (p := ⟨w.heap.size + 2, 3, none⟩) (.inl (by have := unhide S0; dsimp only; omega)) (.bool q2)).set_other (p := ⟨w.heap.size + 2, 4, none⟩) (.inl (by have := unhide S0; dsimp only; omega)) (.slice aM M2.length dM)).set_other (p := ⟨w.heap.size + 2, 5, none⟩) (.inl (by have := unhide S0; dsimp only; omega)) (.int .i64 y2)).tight.wider (lo' := w.heap.size) (by have := unhide S0; omega) (Nat.le_refl _))
  have RB := hide (((((((rM.set_other (p := ⟨w.heap.size + 2, 0, none⟩) (.inl (by have := unhide S0; dsimp only; omega)) (.bool q1)).set_other (p := ⟨w.heap.size + 2, 1, none⟩) (.inl (by have := unhide S0; dsimp only; omega)) (.slice aL M1.length dL)).set_other (p := ⟨w.heap.size + 2, 2, none⟩) (.inl (by have := unhide S0; dsimp only; omega)) (.int .i64 y1)).set_other (p := ⟨w.heap.size + 2, 3, none⟩) (.inl (by have := unhide S0; dsimp only; omega)) (.bool q2)).set_other (p := ⟨w.heap.size + 2, 4, none⟩) (.inl (by have := unhide S0; dsimp only; omega)) (.slice aM M2.length dM)).set_other (p := ⟨w.heap.size + 2, 5, none⟩) (.inl (by have := unhide S0; dsimp only; omega)) (.int .i64 y2)).tight.wider (lo' := w.heap.size) (by have := unhide S0; omega) (Nat.le_refl _))
  have K7 := hide (((((((unhide K).setNew (p := ⟨w.heap.size + 2, 0, none⟩) (by simp) (.bool q1)).setNew (p := ⟨w.heap.size + 2, 1, none⟩) (by simp) (.slice aL M1.length dL)).setNew (p := ⟨w.heap.size + 2, 2, none⟩) (by simp) (.int .i64 y1)).setNew (p := ⟨w.heap.size + 2, 3, none⟩) (by simp) (.bool q2)).setNew (p := ⟨w.heap.size + 2, 4, none⟩) (by simp) (.slice aM M2.length dM)).setNew (p := ⟨w.heap.size + 2, 5, none⟩) (by simp) (.int .i64 y2))
  clear r1 r2 r3 r4 rA rB rL rM K
  go_wp2_with fail
  exact bodyPost_ret (v := .tuple #[.agg #[.bool q1, .slice aL M1.length dL, .int .i64 y1, .bool q2, .slice aM M2.length dM, .int .i64 y2], .bool CC]) (by simp [results, Tryd.results17, go_sem, R0, R1, R2, R3, R4, R5]) rfl (ivS_shut (unhide HQ) (unhide RA) (unhide RB) (unhide K7))

end Go.Proofs.YtbihbloknmjfjaaDoor
