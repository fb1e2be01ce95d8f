/-
  Intervals of the model: l7neg, IvSub.
-/
import Derived.Test.YtbihbloknmjfjaaDoorIv4d
import Derived.Deep.DeepCutAuto
import Derived.Deep.RegionHeld3
namespace Go.Proofs.YtbihbloknmjfjaaDoor
open Go.RowKit
set_option linter.unusedVariables false
set_option maxRecDepth 8000
set_option linter.unusedSimpArgs false

theorem in_l7neg : ∀ (w : World) (args : Array Value), (callFunc 40 args).run Tryd.prog w = .ok (.enter 40 args) w := enters Tryd.func40 (by decide) (fun h => by cases h)

set_option maxHeartbeats 4000000 in
theorem neg7_spec {b1 b2 : Bool} {w1l w1h w2l w2h : Nat} {v1 v2 : Value} {l1 l2 : List Int} (s1 : Bool) (e1 : Int) (s2 : Bool) (e2 : Int) (w : World) (r1 : Row .i64 b1 w1l w1h w v1 l1) (r2 : Row .i64 b2 w2l w2h w v2 l2) (o1 : dokB s1 l1 e1 = true) (o2 : dokB s2 l2 e2 = true) :
    Calls Tryd.prog 40 #[.agg #[.bool s1, v1, .int .i64 e1, .bool s2, v2, .int .i64 e2]] w fun e w' => ∃ v v', e = .returned (.agg #[.bool (wsg (-wval s2 l2)), v, .int .i64 e2, .bool (wsg (-wval s1 l1)), v', .int .i64 e1]) ∧ Row .i64 true w.heap.size w'.heap.size w' v (wlm (-wval s2 l2)) ∧ Row .i64 true w.heap.size w'.heap.size w' v' (wlm (-wval s1 l1)) ∧ Kept 0 0 w w' := by
  replace r1 := r1.tight
  replace r2 := r2.tight
  obtain ⟨W1, hW1⟩ : ∃ c, wsg (-wval s2 l2) = c := ⟨_, rfl⟩
  obtain ⟨Q1, hQ1⟩ : ∃ c, wlm (-wval s2 l2) = c := ⟨_, rfl⟩
  obtain ⟨W2, hW2⟩ : ∃ c, wsg (-wval s1 l1) = c := ⟨_, rfl⟩
  obtain ⟨Q2, hQ2⟩ : ∃ c, wlm (-wval s1 l1) = c := ⟨_, rfl⟩
  rw [hW1, hQ1, hW2, hQ2]
  have HW1 := hide hW1
  clear hW1
  have HQ1 := hide hQ1
  clear hQ1
  have HW2 := hide hW2
  clear hW2
  have HQ2 := hide hQ2
  clear hQ2
  obtain ⟨Wn, hn0⟩ : ∃ wz, wz = ((w.alloc (.cells #[.bool s1, v1, .int .i64 e1, .bool s2, v2, .int .i64 e2] 36)).alloc (.cells #[.bool false, .slice none 0 0, .int .i64 0, .bool false, .slice none 0 0, .int .i64 0] 36)) := ⟨_, rfl⟩
  have k0 : Kept 0 0 w Wn := by rw [hn0]; exact (((Kept.refl 0 0 w).alloc _).alloc _)
  have bp0 : Wn.cell? ⟨w.heap.size, 0, none⟩ = some (.bool s1) := by rw [hn0]; exact old_cell _ (new_cell2 _ _ _ _ _ _ (by simp) rfl)
  have bp1 : Wn.cell? ⟨w.heap.size, 1, none⟩ = some (v1) := by rw [hn0]; exact old_cell _ (new_cell2 _ _ _ _ _ _ (by simp) rfl)
  have bp2 : Wn.cell? ⟨w.heap.size, 2, none⟩ = some (.int .i64 e1) := by rw [hn0]; exact old_cell _ (new_cell2 _ _ _ _ _ _ (by simp) rfl)
  have bp3 : Wn.cell? ⟨w.heap.size, 3, none⟩ = some (.bool s2) := by rw [hn0]; exact old_cell _ (new_cell2 _ _ _ _ _ _ (by simp) rfl)
  have bp4 : Wn.cell? ⟨w.heap.size, 4, none⟩ = some (v2) := by rw [hn0]; exact old_cell _ (new_cell2 _ _ _ _ _ _ (by simp) rfl)
  have bp5 : Wn.cell? ⟨w.heap.size, 5, none⟩ = some (.int .i64 e2) := by rw [hn0]; exact old_cell _ (new_cell2 _ _ _ _ _ _ (by simp) rfl)
  have R0 : Wn.cell? ⟨w.heap.size + 1, 0, none⟩ = some (.bool false) := by rw [hn0]; exact new_cell2 _ _ _ _ _ _ (by simp) rfl
  have Rf0 : Wn.frozen? ⟨w.heap.size + 1, 0, none⟩ = false := by rw [hn0]; exact new_loose2 _ _ _ _ _ (by simp)
  have R1 : Wn.cell? ⟨w.heap.size + 1, 1, none⟩ = some (.slice none 0 0) := by rw [hn0]; exact new_cell2 _ _ _ _ _ _ (by simp) rfl
  have Rf1 : Wn.frozen? ⟨w.heap.size + 1, 1, none⟩ = false := by rw [hn0]; exact new_loose2 _ _ _ _ _ (by simp)
  have R2 : Wn.cell? ⟨w.heap.size + 1, 2, none⟩ = some (.int .i64 0) := by rw [hn0]; exact new_cell2 _ _ _ _ _ _ (by simp) rfl
  have Rf2 : Wn.frozen? ⟨w.heap.size + 1, 2, none⟩ = false := by rw [hn0]; exact new_loose2 _ _ _ _ _ (by simp)
  have R3 : Wn.cell? ⟨w.heap.size + 1, 3, none⟩ = some (.bool false) := by rw [hn0]; exact new_cell2 _ _ _ _ _ _ (by simp) rfl
  have Rf3 : Wn.frozen? ⟨w.heap.size + 1, 3, none⟩ = false := by rw [hn0]; exact new_loose2 _ _ _ _ _ (by simp)
  have R4 : Wn.cell? ⟨w.heap.size + 1, 4, none⟩ = some (.slice none 0 0) := by rw [hn0]; exact new_cell2 _ _ _ _ _ _ (by simp) rfl
  have Rf4 : Wn.frozen? ⟨w.heap.size + 1, 4, none⟩ = false := by rw [hn0]; exact new_loose2 _ _ _ _ _ (by simp)
  have R5 : Wn.cell? ⟨w.heap.size + 1, 5, none⟩ = some (.int .i64 0) := by rw [hn0]; exact new_cell2 _ _ _ _ _ _ (by simp) rfl
  have Rf5 : Wn.frozen? ⟨w.heap.size + 1, 5, none⟩ = false := by rw [hn0]; exact new_loose2 _ _ _ _ _ (by simp)
  subst hn0
  replace r1 := r1.kept k0 (by omega)
  replace r2 := r2.kept k0 (by omega)
  have s0 : ((w.alloc (.cells #[.bool s1, v1, .int .i64 e1, .bool s2, v2, .int .i64 e2] 36)).alloc (.cells #[.bool false, .slice none 0 0, .int .i64 0, .bool false, .slice none 0 0, .int .i64 0] 36)).heap.size = w.heap.size + 2 := by simp
  obtain ⟨a1, c1, hv⟩ := Row.form' r1
  subst hv
  obtain ⟨a2, c2, hv⟩ := Row.form' r2
  subst hv
  have K := hide (k0)
  clear k0
  have S0 := hide s0
  clear s0
  go_enter Tryd.func40, Tryd.ntmps40
  go_wp2_with fail
  generalize ((w.alloc (.cells #[.bool s1, .slice a1 l1.length c1, .int .i64 e1, .bool s2, .slice a2 l2.length c2, .int .i64 e2] 36)).alloc (.cells #[.bool false, .slice none 0 0, .int .i64 0, .bool false, .slice none 0 0, .int .i64 0] 36)) = W at *
  have mkA := fun w' r' => neg4_spec (bw := b2) (lo := w2l) (hi := w.heap.size) (v := .slice a2 l2.length c2) (zs := l2) s2 e2 w' r' (wok_int (dok_parts o2).1).2.2.2 (by have := (wok_int (dok_parts o2).1).2.2.1; omega)
  rw [unhide HW1, unhide HQ1] at mkA
  have mkB := fun w' r' => neg4_spec (bw := b1) (lo := w1l) (hi := w.heap.size) (v := .slice a1 l1.length c1) (zs := l1) s1 e1 w' r' (wok_int (dok_parts o1).1).2.2.2 (by have := (wok_int (dok_parts o1).1).2.2.1; omega)
  rw [unhide HW2, unhide HQ2] at mkB
  have kd := (Kept.refl 0 0 W).drew
  replace r1 := r1.kp kd
  replace r2 := r2.kp kd
  replace Rf0 := kd.loose0 (zbl R0) Rf0
  replace Rf1 := kd.loose0 (zbl R1) Rf1
  replace Rf2 := kd.loose0 (zbl R2) Rf2
  replace Rf3 := kd.loose0 (zbl R3) Rf3
  replace Rf4 := kd.loose0 (zbl R4) Rf4
  replace Rf5 := kd.loose0 (zbl R5) Rf5
  replace bp0 := kd.cell0 bp0
  replace bp1 := kd.cell0 bp1
  replace bp2 := kd.cell0 bp2
  replace bp3 := kd.cell0 bp3
  replace bp4 := kd.cell0 bp4
  replace bp5 := kd.cell0 bp5
  replace R0 := kd.cell0 R0
  replace R1 := kd.cell0 R1
  replace R2 := kd.cell0 R2
  replace R3 := kd.cell0 R3
  replace R4 := kd.cell0 R4
  replace R5 := kd.cell0 R5
  replace K := hide ((unhide K).trans kd)
  have z1 := kd.size
  clear kd
  refine wp_region_held_drew (S := (fun w' => w'.cell? ⟨w.heap.size, 0, none⟩ = some (.bool s1) ∧ w'.cell? ⟨w.heap.size, 1, none⟩ = some (.slice a1 l1.length c1) ∧ w'.cell? ⟨w.heap.size, 2, none⟩ = some (.int .i64 e1) ∧ w'.cell? ⟨w.heap.size, 3, none⟩ = some (.bool s2) ∧ w'.cell? ⟨w.heap.size, 4, none⟩ = some (.slice a2 l2.length c2) ∧ w'.cell? ⟨w.heap.size, 5, none⟩ = some (.int .i64 e2))) (by kernel_rfl) ?_ (fun hH => ?_)
  ·exact ⟨bp0, bp1, bp2, bp3, bp4, bp5⟩
  refine wpAnyH_take (i := 0) (v := .pointer (some ⟨w.heap.size, 3, none⟩)) rfl (by kernel_rfl) (by kernel_rfl) (by kernel_rfl) (fun _ _ _ h => h) (Or.inl ⟨by rfl, ?_⟩) hH ?_
  ·intro wq hSw
   try dsimp only at hSw
   go_simp
  try simp only [Act.put, zq1, zq2, zq3, zq4, zq5, zq6]
  refine wpAnyH_take (i := 1) (v := .agg #[.bool s2, .slice a2 l2.length c2, .int .i64 e2]) rfl (by kernel_rfl) (by kernel_rfl) (by kernel_rfl) (fun _ _ _ h => h) (Or.inl ⟨by rfl, ?_⟩) hH ?_
  ·intro wq hSw
   try dsimp only at hSw
   go_simp
  try simp only [Act.put, zq1, zq2, zq3, zq4, zq5, zq6]
  refine wpAnyH_take (i := 3) (v := .pointer (some ⟨w.heap.size, 0, none⟩)) rfl (by kernel_rfl) (by kernel_rfl) (by kernel_rfl) (fun _ _ _ h => h) (Or.inl ⟨by rfl, ?_⟩) hH ?_
  ·intro wq hSw
   try dsimp only at hSw
   go_simp
  try simp only [Act.put, zq1, zq2, zq3, zq4, zq5, zq6]
  refine wpAnyH_take (i := 4) (v := .agg #[.bool s1, .slice a1 l1.length c1, .int .i64 e1]) rfl (by kernel_rfl) (by kernel_rfl) (by kernel_rfl) (fun _ _ _ h => h) (Or.inl ⟨by rfl, ?_⟩) hH ?_
  ·intro wq hSw
   try dsimp only at hSw
   go_simp
  try simp only [Act.put, zq1, zq2, zq3, zq4, zq5, zq6]
  refine wpAnyH_ready (rs := [2]) (by kernel_rfl) (by simp) ?_
  refine AllReadyH.cons rfl (fun KK hK => ?_) AllReadyH.nil
  simp only [zq1, zq2, zq3]
  rw [if_pos (by rfl)]
  refine wps1 45 (.tmp 4) _ rfl in_l4neg (.agg #[.bool s2, .slice a2 l2.length c2, .int .i64 e2]) rfl (mkA _ r2) ?_
  rintro e w2 ⟨vA, rfl, rA, k2⟩
  refine ⟨_, rfl, ?_⟩
  replace r1 := r1.kp k2
  replace r2 := r2.kp k2
  replace Rf0 := k2.loose0 (zbl R0) Rf0
  replace Rf1 := k2.loose0 (zbl R1) Rf1
  replace Rf2 := k2.loose0 (zbl R2) Rf2
  replace Rf3 := k2.loose0 (zbl R3) Rf3
  replace Rf4 := k2.loose0 (zbl R4) Rf4
  replace Rf5 := k2.loose0 (zbl R5) Rf5
  replace bp0 := k2.cell0 bp0
  replace bp1 := k2.cell0 bp1
  replace bp2 := k2.cell0 bp2
  replace bp3 := k2.cell0 bp3
  replace bp4 := k2.cell0 bp4
  replace bp5 := k2.cell0 bp5
  replace R0 := k2.cell0 R0
  replace R1 := k2.cell0 R1
  replace R2 := k2.cell0 R2
  replace R3 := k2.cell0 R3
  replace R4 := k2.cell0 R4
  replace R5 := k2.cell0 R5
  replace K := hide ((unhide K).trans k2)
  have z3 := k2.size
  clear k2
  clear hH
  refine hK.out _ _ ?_ (fun hH => ?_)
  ·exact ⟨bp0, bp1, bp2, bp3, bp4, bp5⟩
  clear hK KK
  try simp only [Act.put, zq1, zq2, zq3, zq4, zq5, zq6]
  obtain ⟨aA, cA, hv⟩ := Row.form' rA
  subst hv
  refine wpAnyH_ready (rs := [5]) (by kernel_rfl) (by simp) ?_
  refine AllReadyH.cons rfl (fun KK hK => ?_) AllReadyH.nil
  simp only [zq1, zq2, zq3]
  rw [if_pos (by rfl)]
  refine wps1 45 (.tmp 7) _ rfl in_l4neg (.agg #[.bool s1, .slice a1 l1.length c1, .int .i64 e1]) rfl (mkB _ r1) ?_
  rintro e w4 ⟨vB, rfl, rB, k4⟩
  refine ⟨_, rfl, ?_⟩
  replace r1 := r1.kp k4
  replace r2 := r2.kp k4
  replace rA := rA.kp k4
  replace Rf0 := k4.loose0 (zbl R0) Rf0
  replace Rf1 := k4.loose0 (zbl R1) Rf1
  replace Rf2 := k4.loose0 (zbl R2) Rf2
  replace Rf3 := k4.loose0 (zbl R3) Rf3
  replace Rf4 := k4.loose0 (zbl R4) Rf4
  replace Rf5 := k4.loose0 (zbl R5) Rf5
  replace bp0 := k4.cell0 bp0
  replace bp1 := k4.cell0 bp1
  replace bp2 := k4.cell0 bp2
  replace bp3 := k4.cell0 bp3
  replace bp4 := k4.cell0 bp4
  replace bp5 := k4.cell0 bp5
  replace R0 := k4.cell0 R0
  replace R1 := k4.cell0 R1
  replace R2 := k4.cell0 R2
  replace R3 := k4.cell0 R3
  replace R4 := k4.cell0 R4
  replace R5 := k4.cell0 R5
  replace K := hide ((unhide K).trans k4)
  have z5 := k4.size
  clear k4
  clear hH
  refine hK.out _ _ ?_ (fun hH => ?_)
  ·exact ⟨bp0, bp1, bp2, bp3, bp4, bp5⟩
  clear hK KK
  try simp only [Act.put, zq1, zq2, zq3, zq4, zq5, zq6]
  obtain ⟨aB, cB, hv⟩ := Row.form' rB
  subst hv
  refine wpAnyH_take (i := 6) (v := .agg #[.bool W1, .slice aA Q1.length cA, .int .i64 e2, .bool W2, .slice aB Q2.length cB, .int .i64 e1]) rfl (by kernel_rfl) (by kernel_rfl) (by kernel_rfl) (fun _ _ _ h => h) (Or.inl ⟨by rfl, ?_⟩) hH ?_
  ·intro wq hSw
   try dsimp only at hSw
   go_simp
  try simp only [Act.put, zq1, zq2, zq3, zq4, zq5, zq6]
  refine wpAnyH_ready (rs := [7]) (by kernel_rfl) (by simp) ?_
  refine AllReadyH.cons rfl (fun KK hK => ?_) AllReadyH.nil
  simp only [zq1, zq2, zq3]
  rw [if_pos (by rfl)]
  go_simp
  clear hH
  refine hK.out _ _ ?_ (fun hH => ?_)
  ·exact ⟨(cw6 (by have := unhide S0; dsimp only; omega) bp0), (cw6 (by have := unhide S0; dsimp only; omega) bp1), (cw6 (by have := unhide S0; dsimp only; omega) bp2), (cw6 (by have := unhide S0; dsimp only; omega) bp3), (cw6 (by have := unhide S0; dsimp only; omega) bp4), (cw6 (by have := unhide S0; dsimp only; omega) bp5)⟩
  clear hK KK
  try simp only [Act.put, zq1, zq2, zq3, zq4, zq5, zq6]
  refine wpAnyH_done (by kernel_rfl) ?_ _
  clear hH
  clear mkA mkB
  have RA := hide (((((((rA.set_other (p := ⟨w.heap.size + 1, 0, none⟩) (.inl (by have := unhide S0; dsimp only; omega)) (.bool W1)).set_other (p := ⟨w.heap.size + 1, 1, none⟩) (.inl (by have := unhide S0; dsimp only; omega)) (.slice aA Q1.length cA)).set_other (p := ⟨w.heap.size + 1, 2, none⟩) (.inl (by have := unhide S0; dsimp only; omega)) (.int .i64 e2)).set_other (p := ⟨w.heap.size + 1, 3, none⟩) (.inl (by have := unhide S0; dsimp only; omega)) (.bool W2)).set_other (p := ⟨w.heap.size + 1, 4, none⟩) (.inl (by have := unhide S0; dsimp only; omega)) (.slice aB Q2.length cB)).set_other (p := ⟨w.heap.size + 1, 5, none⟩) (.inl (by have := unhide S0; dsimp only; omega)) (.int .i64 e1)).tight.wider (lo' := w.heap.size) (by have := unhide S0; omega) (Nat.le_refl _))
  have RB := hide (((((((rB.set_other (p := ⟨w.heap.size + 1, 0, none⟩) (.inl (by have := unhide S0; dsimp only; omega)) (.bool W1)).set_other (p := ⟨w.heap.size + 1, 1, none⟩) (.inl (by have := unhide S0; dsimp only; omega)) (.slice aA Q1.length cA)).set_other (p := ⟨w.heap.size + 1, 2, none⟩) (.inl (by have := unhide S0; dsimp only; omega)) (.int .i64 e2)).set_other (p := ⟨w.heap.size + 1, 3, none⟩) (.inl (by have := unhide S0; dsimp only; omega)) (.bool W2)).set_other (p := ⟨w.heap.size + 1, 4, none⟩) (.inl (by have := unhide S0; dsimp only; omega)) (.slice aB Q2.length cB)).set_other (p := ⟨w.heap.size + 1, 5, none⟩) (.inl (by have := unhide S0; dsimp only; omega)) (.int .i64 e1)).tight.wider (lo' := w.heap.size) (by have := unhide S0; omega) (Nat.le_refl _))
  have K7 := hide (((((((unhide K).setNew (p := ⟨w.heap.size + 1, 0, none⟩) (by simp) (.bool W1)).setNew (p := ⟨w.heap.size + 1, 1, none⟩) (by simp) (.slice aA Q1.length cA)).setNew (p := ⟨w.heap.size + 1, 2, none⟩) (by simp) (.int .i64 e2)).setNew (p := ⟨w.heap.size + 1, 3, none⟩) (by simp) (.bool W2)).setNew (p := ⟨w.heap.size + 1, 4, none⟩) (by simp) (.slice aB Q2.length cB)).setNew (p := ⟨w.heap.size + 1, 5, none⟩) (by simp) (.int .i64 e1))
  clear r1 r2 rA rB K
  go_wp2_with fail
  exact bodyPost_ret (v := .agg #[.bool W1, .slice aA Q1.length cA, .int .i64 e2, .bool W2, .slice aB Q2.length cB, .int .i64 e1]) (by simp [results, Tryd.results40, go_sem, R0, R1, R2, R3, R4, R5]) rfl ⟨_, _, rfl, unhide RA, unhide RB, unhide K7⟩

set_option maxHeartbeats 4000000 in
theorem ivsub_spec {b1 b2 b3 b4 : Bool} {w1l w1h w2l w2h w3l w3h w4l w4h : Nat} {v1 v2 v3 v4 : Value} {l1 l2 l3 l4 : List Int} (s1 : Bool) (e1 : Int) (hu1 : e1 ≤ 9223372036854775807) (hd1 : -9223372036854775808 ≤ e1) (s2 : Bool) (e2 : Int) (hu2 : e2 ≤ 9223372036854775807) (hd2 : -9223372036854775808 ≤ e2) (s3 : Bool) (e3 : Int) (hu3 : e3 ≤ 9223372036854775807) (hd3 : -9223372036854775808 ≤ e3) (s4 : Bool) (e4 : Int) (hu4 : e4 ≤ 9223372036854775807) (hd4 : -9223372036854775808 ≤ e4) (w : World) (r1 : Row .i64 b1 w1l w1h w v1 l1) (r2 : Row .i64 b2 w2l w2h w v2 l2) (r3 : Row .i64 b3 w3l w3h w v3 l3) (r4 : Row .i64 b4 w4l w4h w v4 l4) :
    Calls Tryd.prog 20 #[.agg #[.bool s1, v1, .int .i64 e1, .bool s2, v2, .int .i64 e2], .agg #[.bool s3, v3, .int .i64 e3, .bool s4, v4, .int .i64 e4]] w fun e w' => IvAnsS (ivC (iokB s1 l1 e1 s2 l2 e2 && iokB s3 l3 e3 s4 l4 e4) (wval s1 l1 * 2 ^ (e1 - min e1 e4).toNat - wval s4 l4 * 2 ^ (e4 - min e1 e4).toNat) (min e1 e4) (wval s2 l2 * 2 ^ (e2 - min e2 e3).toNat - wval s3 l3 * 2 ^ (e3 - min e2 e3).toNat) (min e2 e3)) (wsg (wval s1 l1 * 2 ^ (e1 - min e1 e4).toNat - wval s4 l4 * 2 ^ (e4 - min e1 e4).toNat)) (dex (wval s1 l1 * 2 ^ (e1 - min e1 e4).toNat - wval s4 l4 * 2 ^ (e4 - min e1 e4).toNat) (min e1 e4)) (dlm (wval s1 l1 * 2 ^ (e1 - min e1 e4).toNat - wval s4 l4 * 2 ^ (e4 - min e1 e4).toNat)) (wsg (wval s2 l2 * 2 ^ (e2 - min e2 e3).toNat - wval s3 l3 * 2 ^ (e3 - min e2 e3).toNat)) (dex (wval s2 l2 * 2 ^ (e2 - min e2 e3).toNat - wval s3 l3 * 2 ^ (e3 - min e2 e3).toNat) (min e2 e3)) (dlm (wval s2 l2 * 2 ^ (e2 - min e2 e3).toNat - wval s3 l3 * 2 ^ (e3 - min e2 e3).toNat)) w e w' := by
  replace r1 := r1.tight
  replace r2 := r2.tight
  replace r3 := r3.tight
  replace r4 := r4.tight
  obtain ⟨CC, hCC⟩ : ∃ c, ivC (iokB s1 l1 e1 s2 l2 e2 && iokB s3 l3 e3 s4 l4 e4) (wval s1 l1 * 2 ^ (e1 - min e1 e4).toNat - wval s4 l4 * 2 ^ (e4 - min e1 e4).toNat) (min e1 e4) (wval s2 l2 * 2 ^ (e2 - min e2 e3).toNat - wval s3 l3 * 2 ^ (e3 - min e2 e3).toNat) (min e2 e3) = c := ⟨_, rfl⟩
  rw [hCC]
  have HCC := hide hCC
  clear hCC
  obtain ⟨W1, hW1⟩ : ∃ c, wsg (wval s1 l1 * 2 ^ (e1 - min e1 e4).toNat - wval s4 l4 * 2 ^ (e4 - min e1 e4).toNat) = c := ⟨_, rfl⟩
  obtain ⟨D1, hD1⟩ : ∃ c, dex (wval s1 l1 * 2 ^ (e1 - min e1 e4).toNat - wval s4 l4 * 2 ^ (e4 - min e1 e4).toNat) (min e1 e4) = c := ⟨_, rfl⟩
  obtain ⟨Q1, hQ1⟩ : ∃ c, dlm (wval s1 l1 * 2 ^ (e1 - min e1 e4).toNat - wval s4 l4 * 2 ^ (e4 - min e1 e4).toNat) = c := ⟨_, rfl⟩
  obtain ⟨W2, hW2⟩ : ∃ c, wsg (wval s2 l2 * 2 ^ (e2 - min e2 e3).toNat - wval s3 l3 * 2 ^ (e3 - min e2 e3).toNat) = c := ⟨_, rfl⟩
  obtain ⟨D2, hD2⟩ : ∃ c, dex (wval s2 l2 * 2 ^ (e2 - min e2 e3).toNat - wval s3 l3 * 2 ^ (e3 - min e2 e3).toNat) (min e2 e3) = c := ⟨_, rfl⟩
  obtain ⟨Q2, hQ2⟩ : ∃ c, dlm (wval s2 l2 * 2 ^ (e2 - min e2 e3).toNat - wval s3 l3 * 2 ^ (e3 - min e2 e3).toNat) = c := ⟨_, rfl⟩
  try rw [hW1]
  try rw [hD1]
  try rw [hQ1]
  try rw [hW2]
  try rw [hD2]
  try rw [hQ2]
  have HW1 := hide hW1
  clear hW1
  have HD1 := hide hD1
  clear hD1
  have HQ1 := hide hQ1
  clear hQ1
  have HW2 := hide hW2
  clear hW2
  have HD2 := hide hD2
  clear hD2
  have HQ2 := hide hQ2
  clear hQ2
  obtain ⟨Wn, hn0⟩ : ∃ wz, wz = (((w.alloc (.cells #[.bool s1, v1, .int .i64 e1, .bool s2, v2, .int .i64 e2] 36)).alloc (.cells #[.bool s3, v3, .int .i64 e3, .bool s4, v4, .int .i64 e4] 36)).alloc (.cells #[.bool false, .slice none 0 0, .int .i64 0, .bool false, .slice none 0 0, .int .i64 0] 36)) := ⟨_, rfl⟩
  have k0 : Kept 0 0 w Wn := by rw [hn0]; exact ((((Kept.refl 0 0 w).alloc _).alloc _).alloc _)
  have bp0 : Wn.cell? ⟨w.heap.size, 0, none⟩ = some (.bool s1) := by rw [hn0]; exact old_cell _ (old_cell _ (new_cell2 _ _ _ _ _ _ (by simp) rfl))
  have bp1 : Wn.cell? ⟨w.heap.size, 1, none⟩ = some (v1) := by rw [hn0]; exact old_cell _ (old_cell _ (new_cell2 _ _ _ _ _ _ (by simp) rfl))
  have bp2 : Wn.cell? ⟨w.heap.size, 2, none⟩ = some (.int .i64 e1) := by rw [hn0]; exact old_cell _ (old_cell _ (new_cell2 _ _ _ _ _ _ (by simp) rfl))
  have bp3 : Wn.cell? ⟨w.heap.size, 3, none⟩ = some (.bool s2) := by rw [hn0]; exact old_cell _ (old_cell _ (new_cell2 _ _ _ _ _ _ (by simp) rfl))
  have bp4 : Wn.cell? ⟨w.heap.size, 4, none⟩ = some (v2) := by rw [hn0]; exact old_cell _ (old_cell _ (new_cell2 _ _ _ _ _ _ (by simp) rfl))
  have bp5 : Wn.cell? ⟨w.heap.size, 5, none⟩ = some (.int .i64 e2) := by rw [hn0]; exact old_cell _ (old_cell _ (new_cell2 _ _ _ _ _ _ (by simp) rfl))
  have bq0 : Wn.cell? ⟨w.heap.size + 1, 0, none⟩ = some (.bool s3) := by rw [hn0]; exact old_cell _ (new_cell2 _ _ _ _ _ _ (by simp) rfl)
  have bq1 : Wn.cell? ⟨w.heap.size + 1, 1, none⟩ = some (v3) := by rw [hn0]; exact old_cell _ (new_cell2 _ _ _ _ _ _ (by simp) rfl)
  have bq2 : Wn.cell? ⟨w.heap.size + 1, 2, none⟩ = some (.int .i64 e3) := by rw [hn0]; exact old_cell _ (new_cell2 _ _ _ _ _ _ (by simp) rfl)
  have bq3 : Wn.cell? ⟨w.heap.size + 1, 3, none⟩ = some (.bool s4) := by rw [hn0]; exact old_cell _ (new_cell2 _ _ _ _ _ _ (by simp) rfl)
  have bq4 : Wn.cell? ⟨w.heap.size + 1, 4, none⟩ = some (v4) := by rw [hn0]; exact old_cell _ (new_cell2 _ _ _ _ _ _ (by simp) rfl)
  have bq5 : Wn.cell? ⟨w.heap.size + 1, 5, none⟩ = some (.int .i64 e4) := by rw [hn0]; exact old_cell _ (new_cell2 _ _ _ _ _ _ (by simp) rfl)
  have R0 : Wn.cell? ⟨w.heap.size + 2, 0, none⟩ = some (.bool false) := by rw [hn0]; exact new_cell2 _ _ _ _ _ _ (by simp) rfl
  have Rf0 : Wn.frozen? ⟨w.heap.size + 2, 0, none⟩ = false := by rw [hn0]; exact new_loose2 _ _ _ _ _ (by simp)
  have R1 : Wn.cell? ⟨w.heap.size + 2, 1, none⟩ = some (.slice none 0 0) := by rw [hn0]; exact new_cell2 _ _ _ _ _ _ (by simp) rfl
  have Rf1 : Wn.frozen? ⟨w.heap.size + 2, 1, none⟩ = false := by rw [hn0]; exact new_loose2 _ _ _ _ _ (by simp)
  have R2 : Wn.cell? ⟨w.heap.size + 2, 2, none⟩ = some (.int .i64 0) := by rw [hn0]; exact new_cell2 _ _ _ _ _ _ (by simp) rfl
  have Rf2 : Wn.frozen? ⟨w.heap.size + 2, 2, none⟩ = false := by rw [hn0]; exact new_loose2 _ _ _ _ _ (by simp)
  have R3 : Wn.cell? ⟨w.heap.size + 2, 3, none⟩ = some (.bool false) := by rw [hn0]; exact new_cell2 _ _ _ _ _ _ (by simp) rfl
  have Rf3 : Wn.frozen? ⟨w.heap.size + 2, 3, none⟩ = false := by rw [hn0]; exact new_loose2 _ _ _ _ _ (by simp)
  have R4 : Wn.cell? ⟨w.heap.size + 2, 4, none⟩ = some (.slice none 0 0) := by rw [hn0]; exact new_cell2 _ _ _ _ _ _ (by simp) rfl
  have Rf4 : Wn.frozen? ⟨w.heap.size + 2, 4, none⟩ = false := by rw [hn0]; exact new_loose2 _ _ _ _ _ (by simp)
  have R5 : Wn.cell? ⟨w.heap.size + 2, 5, none⟩ = some (.int .i64 0) := by rw [hn0]; exact new_cell2 _ _ _ _ _ _ (by simp) rfl
  have Rf5 : Wn.frozen? ⟨w.heap.size + 2, 5, none⟩ = false := by rw [hn0]; exact new_loose2 _ _ _ _ _ (by simp)
  subst hn0
  replace r1 := r1.kept k0 (by omega)
  replace r2 := r2.kept k0 (by omega)
  replace r3 := r3.kept k0 (by omega)
  replace r4 := r4.kept k0 (by omega)
  have s0 : (((w.alloc (.cells #[.bool s1, v1, .int .i64 e1, .bool s2, v2, .int .i64 e2] 36)).alloc (.cells #[.bool s3, v3, .int .i64 e3, .bool s4, v4, .int .i64 e4] 36)).alloc (.cells #[.bool false, .slice none 0 0, .int .i64 0, .bool false, .slice none 0 0, .int .i64 0] 36)).heap.size = w.heap.size + 3 := by simp
  obtain ⟨a1, c1, hv⟩ := Row.form' r1
  subst hv
  obtain ⟨a2, c2, hv⟩ := Row.form' r2
  subst hv
  obtain ⟨a3, c3, hv⟩ := Row.form' r3
  subst hv
  obtain ⟨a4, c4, hv⟩ := Row.form' r4
  subst hv
  have K := hide (k0)
  clear k0
  have S0 := hide s0
  clear s0
  go_enter Tryd.func20, Tryd.ntmps20
  go_wp2_with fail
  generalize (((w.alloc (.cells #[.bool s1, .slice a1 l1.length c1, .int .i64 e1, .bool s2, .slice a2 l2.length c2, .int .i64 e2] 36)).alloc (.cells #[.bool s3, .slice a3 l3.length c3, .int .i64 e3, .bool s4, .slice a4 l4.length c4, .int .i64 e4] 36)).alloc (.cells #[.bool false, .slice none 0 0, .int .i64 0, .bool false, .slice none 0 0, .int .i64 0] 36)) = W at *
  refine (ivok_spec s1 e1 hu1 hd1 s2 e2 hu2 hd2 _ r1 r2).mono ?_
  rintro e w1 ⟨rfl, k1⟩
  replace r1 := r1.kp k1
  replace r2 := r2.kp k1
  replace r3 := r3.kp k1
  replace r4 := r4.kp k1
  replace Rf0 := k1.loose0 (zbl R0) Rf0
  replace Rf1 := k1.loose0 (zbl R1) Rf1
  replace Rf2 := k1.loose0 (zbl R2) Rf2
  replace Rf3 := k1.loose0 (zbl R3) Rf3
  replace Rf4 := k1.loose0 (zbl R4) Rf4
  replace Rf5 := k1.loose0 (zbl R5) Rf5
  replace bp0 := k1.cell0 bp0
  replace bp1 := k1.cell0 bp1
  replace bp2 := k1.cell0 bp2
  replace bp3 := k1.cell0 bp3
  replace bp4 := k1.cell0 bp4
  replace bp5 := k1.cell0 bp5
  replace bq0 := k1.cell0 bq0
  replace bq1 := k1.cell0 bq1
  replace bq2 := k1.cell0 bq2
  replace bq3 := k1.cell0 bq3
  replace bq4 := k1.cell0 bq4
  replace bq5 := k1.cell0 bq5
  replace R0 := k1.cell0 R0
  replace R1 := k1.cell0 R1
  replace R2 := k1.cell0 R2
  replace R3 := k1.cell0 R3
  replace R4 := k1.cell0 R4
  replace R5 := k1.cell0 R5
  replace K := hide ((unhide K).trans k1)
  have z2 := k1.size
  clear k1
  cases ho : iokB s1 l1 e1 s2 l2 e2
  ·have EC : Hid (CC = false) := by show _ = _; rw [← unhide HCC]; exact ivC_no (by rw [ho]; rfl)
   have K7 := hide (((((((unhide K).setNew (p := ⟨w.heap.size + 2, 0, none⟩) (by simp) (.bool false)).setNew (p := ⟨w.heap.size + 2, 1, none⟩) (by simp) (.slice none 0 0)).setNew (p := ⟨w.heap.size + 2, 2, none⟩) (by simp) (.int .i64 0)).setNew (p := ⟨w.heap.size + 2, 3, none⟩) (by simp) (.bool false)).setNew (p := ⟨w.heap.size + 2, 4, none⟩) (by simp) (.slice none 0 0)).setNew (p := ⟨w.heap.size + 2, 5, none⟩) (by simp) (.int .i64 0))
   clear r1 r2 r3 r4 K
   go_wp2_with fail
   exact bodyPost_ret (v := .tuple #[.agg #[.bool false, .slice none 0 0, .int .i64 0, .bool false, .slice none 0 0, .int .i64 0], .bool false]) (by simp [results, Tryd.results20, go_sem, R0, R1, R2, R3, R4, R5]) rfl (by rw [unhide EC]; exact ivS_no (unhide K7))
  obtain ⟨i1, i2, -⟩ := iok_parts ho
  have I1 := hide i1
  have I2 := hide i2
  have HO := hide ho
  clear ho i1 i2
  go_wp2_with fail
  refine (ivok_spec s3 e3 hu3 hd3 s4 e4 hu4 hd4 _ r3 r4).mono ?_
  rintro e w3 ⟨rfl, k3⟩
  replace r1 := r1.kp k3
  replace r2 := r2.kp k3
  replace r3 := r3.kp k3
  replace r4 := r4.kp k3
  replace Rf0 := k3.loose0 (zbl R0) Rf0
  replace Rf1 := k3.loose0 (zbl R1) Rf1
  replace Rf2 := k3.loose0 (zbl R2) Rf2
  replace Rf3 := k3.loose0 (zbl R3) Rf3
  replace Rf4 := k3.loose0 (zbl R4) Rf4
  replace Rf5 := k3.loose0 (zbl R5) Rf5
  replace bp0 := k3.cell0 bp0
  replace bp1 := k3.cell0 bp1
  replace bp2 := k3.cell0 bp2
  replace bp3 := k3.cell0 bp3
  replace bp4 := k3.cell0 bp4
  replace bp5 := k3.cell0 bp5
  replace bq0 := k3.cell0 bq0
  replace bq1 := k3.cell0 bq1
  replace bq2 := k3.cell0 bq2
  replace bq3 := k3.cell0 bq3
  replace bq4 := k3.cell0 bq4
  replace bq5 := k3.cell0 bq5
  replace R0 := k3.cell0 R0
  replace R1 := k3.cell0 R1
  replace R2 := k3.cell0 R2
  replace R3 := k3.cell0 R3
  replace R4 := k3.cell0 R4
  replace R5 := k3.cell0 R5
  replace K := hide ((unhide K).trans k3)
  have z4 := k3.size
  clear k3
  cases ho : iokB s3 l3 e3 s4 l4 e4
  ·have EC : Hid (CC = false) := by show _ = _; rw [← unhide HCC]; exact ivC_no (by rw [ho, unhide HO]; rfl)
   have K7 := hide (((((((unhide K).setNew (p := ⟨w.heap.size + 2, 0, none⟩) (by simp) (.bool false)).setNew (p := ⟨w.heap.size + 2, 1, none⟩) (by simp) (.slice none 0 0)).setNew (p := ⟨w.heap.size + 2, 2, none⟩) (by simp) (.int .i64 0)).setNew (p := ⟨w.heap.size + 2, 3, none⟩) (by simp) (.bool false)).setNew (p := ⟨w.heap.size + 2, 4, none⟩) (by simp) (.slice none 0 0)).setNew (p := ⟨w.heap.size + 2, 5, none⟩) (by simp) (.int .i64 0))
   clear r1 r2 r3 r4 K
   go_wp2_with fail
   exact bodyPost_ret (v := .tuple #[.agg #[.bool false, .slice none 0 0, .int .i64 0, .bool false, .slice none 0 0, .int .i64 0], .bool false]) (by simp [results, Tryd.results20, go_sem, R0, R1, R2, R3, R4, R5]) rfl (by rw [unhide EC]; exact ivS_no (unhide K7))
  obtain ⟨i3, i4, -⟩ := iok_parts ho
  have I3 := hide i3
  have I4 := hide i4
  have HC : Hid ((iokB s1 l1 e1 s2 l2 e2 && iokB s3 l3 e3 s4 l4 e4) = true) := by show _ = _; rw [ho, unhide HO]; rfl
  clear ho i3 i4
  have mkf : ∀ w' vA vB lo' hi', Row .i64 true lo' hi' w' vA Q1 → Row .i64 true lo' hi' w' vB Q2 → Calls Tryd.prog 27 #[.agg #[.bool W1, vA, .int .i64 D1, .bool W2, vB, .int .i64 D2]] w' fun e w'' => IvAnsS CC W1 D1 Q1 W2 D2 Q2 w' e w'' := fun w' vA vB lo' hi' rA' rB' => by
   have rg1 := dif_sum (unhide I4) ▸ sum_rg (unhide I1) (dok_neg (unhide I4)).1
   have rg2 := dif_sum (unhide I3) ▸ sum_rg (unhide I2) (dok_neg (unhide I3)).1
   rw [unhide HD1] at rg1
   rw [unhide HD2] at rg2
   have mk := fits7_spec W1 D1 rg1.1 rg1.2 W2 D2 rg2.1 rg2.2 w' rA' rB'
   have hcc := unhide HCC
   unfold ivC at hcc
   rw [unhide HC, unhide HW1, unhide HD1, unhide HQ1, unhide HW2, unhide HD2, unhide HQ2, Bool.true_and] at hcc
   rw [hcc] at mk
   exact mk
  have mkn := fun w' r' r'' => neg7_spec (b1 := b3) (w1l := w3l) (w1h := w.heap.size) (b2 := b4) (w2l := w4l) (w2h := w.heap.size) (v1 := .slice a3 l3.length c3) (v2 := .slice a4 l4.length c4) (l1 := l3) (l2 := l4) s3 e3 s4 e4 w' r' r'' (unhide I3) (unhide I4)
  have mka := fun w' v3' v4' lo' hi' r1' r2' r3' r4' => add7_spec (b1 := b1) (w1l := w1l) (w1h := w.heap.size) (b2 := b2) (w2l := w2l) (w2h := w.heap.size) (b3 := true) (w3l := lo') (w3h := hi') (b4 := true) (w4l := lo') (w4h := hi') (v1 := .slice a1 l1.length c1) (v2 := .slice a2 l2.length c2) (v3 := v3') (v4 := v4') (l1 := l1) (l2 := l2) s1 e1 s2 e2 (wsg (-wval s4 l4)) e4 (wsg (-wval s3 l3)) e3 w' r1' r2' r3' r4' (unhide I1) (unhide I2) (dok_neg (unhide I4)).1 (dok_neg (unhide I3)).1
  simp only [dif_sum (unhide I4), dif_sum (unhide I3), unhide HW1, unhide HD1, unhide HQ1, unhide HW2, unhide HD2, unhide HQ2] at mka
  generalize wlm (-wval s4 l4) = y4 at *
  generalize wsg (-wval s4 l4) = g4 at *
  generalize wlm (-wval s3 l3) = y3 at *
  generalize wsg (-wval s3 l3) = g3 at *
  go_wp2_with fail
  have kd := (Kept.refl 0 0 w3).drew
  replace r1 := r1.kp kd
  replace r2 := r2.kp kd
  replace r3 := r3.kp kd
  replace r4 := r4.kp kd
  replace Rf0 := kd.loose0 (zbl R0) Rf0
  replace Rf1 := kd.loose0 (zbl R1) Rf1
  replace Rf2 := kd.loose0 (zbl R2) Rf2
  replace Rf3 := kd.loose0 (zbl R3) Rf3
  replace Rf4 := kd.loose0 (zbl R4) Rf4
  replace Rf5 := kd.loose0 (zbl R5) Rf5
  replace bp0 := kd.cell0 bp0
  replace bp1 := kd.cell0 bp1
  replace bp2 := kd.cell0 bp2
  replace bp3 := kd.cell0 bp3
  replace bp4 := kd.cell0 bp4
  replace bp5 := kd.cell0 bp5
  replace bq0 := kd.cell0 bq0
  replace bq1 := kd.cell0 bq1
  replace bq2 := kd.cell0 bq2
  replace bq3 := kd.cell0 bq3
  replace bq4 := kd.cell0 bq4
  replace bq5 := kd.cell0 bq5
  replace R0 := kd.cell0 R0
  replace R1 := kd.cell0 R1
  replace R2 := kd.cell0 R2
  replace R3 := kd.cell0 R3
  replace R4 := kd.cell0 R4
  replace R5 := kd.cell0 R5
  replace K := hide ((unhide K).trans kd)
  have z5 := kd.size
  clear kd
  refine wp_region_held_drew (S := (fun w' => w'.cell? ⟨w.heap.size, 0, none⟩ = some (.bool s1) ∧ w'.cell? ⟨w.heap.size, 1, none⟩ = some (.slice a1 l1.length c1) ∧ w'.cell? ⟨w.heap.size, 2, none⟩ = some (.int .i64 e1) ∧ w'.cell? ⟨w.heap.size, 3, none⟩ = some (.bool s2) ∧ w'.cell? ⟨w.heap.size, 4, none⟩ = some (.slice a2 l2.length c2) ∧ w'.cell? ⟨w.heap.size, 5, none⟩ = some (.int .i64 e2) ∧ w'.cell? ⟨w.heap.size + 1, 0, none⟩ = some (.bool s3) ∧ w'.cell? ⟨w.heap.size + 1, 1, none⟩ = some (.slice a3 l3.length c3) ∧ w'.cell? ⟨w.heap.size + 1, 2, none⟩ = some (.int .i64 e3) ∧ w'.cell? ⟨w.heap.size + 1, 3, none⟩ = some (.bool s4) ∧ w'.cell? ⟨w.heap.size + 1, 4, none⟩ = some (.slice a4 l4.length c4) ∧ w'.cell? ⟨w.heap.size + 1, 5, none⟩ = some (.int .i64 e4))) (by kernel_rfl) ?_ (fun hH => ?_)
  ·exact ⟨bp0, bp1, bp2, bp3, bp4, bp5, bq0, bq1, bq2, bq3, bq4, bq5⟩
  refine wpAnyH_take (i := 0) (v := .agg #[.bool s1, .slice a1 l1.length c1, .int .i64 e1, .bool s2, .slice a2 l2.length c2, .int .i64 e2]) rfl (by kernel_rfl) (by kernel_rfl) (by kernel_rfl) (fun _ _ _ h => h) (Or.inl ⟨by rfl, ?_⟩) hH ?_
  ·intro wq hSw
   try dsimp only at hSw
   go_simp
  try simp only [Act.put, zq1, zq2, zq3, zq4, zq5, zq6]
  refine wpAnyH_take (i := 1) (v := .agg #[.bool s3, .slice a3 l3.length c3, .int .i64 e3, .bool s4, .slice a4 l4.length c4, .int .i64 e4]) rfl (by kernel_rfl) (by kernel_rfl) (by kernel_rfl) (fun _ _ _ h => h) (Or.inl ⟨by rfl, ?_⟩) hH ?_
  ·intro wq hSw
   try dsimp only at hSw
   go_simp
  try simp only [Act.put, zq1, zq2, zq3, zq4, zq5, zq6]
  refine wpAnyH_ready (rs := [2]) (by kernel_rfl) (by simp) ?_
  refine AllReadyH.cons rfl (fun KK hK => ?_) AllReadyH.nil
  simp only [zq1, zq2, zq3]
  rw [if_pos (by rfl)]
  refine wps1 40 (.tmp 16) _ rfl in_l7neg (.agg #[.bool s3, .slice a3 l3.length c3, .int .i64 e3, .bool s4, .slice a4 l4.length c4, .int .i64 e4]) rfl (mkn _ r3 r4) ?_
  rintro e w6 ⟨vN, vO, rfl, rN, rO, k6⟩
  refine ⟨_, rfl, ?_⟩
  replace r1 := r1.kp k6
  replace r2 := r2.kp k6
  replace r3 := r3.kp k6
  replace r4 := r4.kp k6
  replace Rf0 := k6.loose0 (zbl R0) Rf0
  replace Rf1 := k6.loose0 (zbl R1) Rf1
  replace Rf2 := k6.loose0 (zbl R2) Rf2
  replace Rf3 := k6.loose0 (zbl R3) Rf3
  replace Rf4 := k6.loose0 (zbl R4) Rf4
  replace Rf5 := k6.loose0 (zbl R5) Rf5
  replace bp0 := k6.cell0 bp0
  replace bp1 := k6.cell0 bp1
  replace bp2 := k6.cell0 bp2
  replace bp3 := k6.cell0 bp3
  replace bp4 := k6.cell0 bp4
  replace bp5 := k6.cell0 bp5
  replace bq0 := k6.cell0 bq0
  replace bq1 := k6.cell0 bq1
  replace bq2 := k6.cell0 bq2
  replace bq3 := k6.cell0 bq3
  replace bq4 := k6.cell0 bq4
  replace bq5 := k6.cell0 bq5
  replace R0 := k6.cell0 R0
  replace R1 := k6.cell0 R1
  replace R2 := k6.cell0 R2
  replace R3 := k6.cell0 R3
  replace R4 := k6.cell0 R4
  replace R5 := k6.cell0 R5
  replace K := hide ((unhide K).trans k6)
  have z7 := k6.size
  clear k6
  clear hH
  refine hK.out _ _ ?_ (fun hH => ?_)
  ·exact ⟨bp0, bp1, bp2, bp3, bp4, bp5, bq0, bq1, bq2, bq3, bq4, bq5⟩
  clear hK KK
  try simp only [Act.put, zq1, zq2, zq3, zq4, zq5, zq6]
  refine wpAnyH_ready (rs := [3]) (by kernel_rfl) (by simp) ?_
  refine AllReadyH.cons rfl (fun KK hK => ?_) AllReadyH.nil
  simp only [zq1, zq2, zq3]
  rw [if_pos (by rfl)]
  refine wps2 36 (.tmp 15) (.tmp 17) _ rfl in_l7add (.agg #[.bool s1, .slice a1 l1.length c1, .int .i64 e1, .bool s2, .slice a2 l2.length c2, .int .i64 e2]) (.agg #[.bool g4, vN, .int .i64 e4, .bool g3, vO, .int .i64 e3]) rfl rfl (mka _ _ _ _ _ r1 r2 rN rO) ?_
  rintro e w8 ⟨vA, vB, rfl, rA, rB, k8⟩
  refine ⟨_, rfl, ?_⟩
  replace r1 := r1.kp k8
  replace r2 := r2.kp k8
  replace r3 := r3.kp k8
  replace r4 := r4.kp k8
  replace rN := rN.kp k8
  replace rO := rO.kp k8
  replace Rf0 := k8.loose0 (zbl R0) Rf0
  replace Rf1 := k8.loose0 (zbl R1) Rf1
  replace Rf2 := k8.loose0 (zbl R2) Rf2
  replace Rf3 := k8.loose0 (zbl R3) Rf3
  replace Rf4 := k8.loose0 (zbl R4) Rf4
  replace Rf5 := k8.loose0 (zbl R5) Rf5
  replace bp0 := k8.cell0 bp0
  replace bp1 := k8.cell0 bp1
  replace bp2 := k8.cell0 bp2
  replace bp3 := k8.cell0 bp3
  replace bp4 := k8.cell0 bp4
  replace bp5 := k8.cell0 bp5
  replace bq0 := k8.cell0 bq0
  replace bq1 := k8.cell0 bq1
  replace bq2 := k8.cell0 bq2
  replace bq3 := k8.cell0 bq3
  replace bq4 := k8.cell0 bq4
  replace bq5 := k8.cell0 bq5
  replace R0 := k8.cell0 R0
  replace R1 := k8.cell0 R1
  replace R2 := k8.cell0 R2
  replace R3 := k8.cell0 R3
  replace R4 := k8.cell0 R4
  replace R5 := k8.cell0 R5
  replace K := hide ((unhide K).trans k8)
  have z9 := k8.size
  clear k8
  clear hH
  refine hK.out _ _ ?_ (fun hH => ?_)
  ·exact ⟨bp0, bp1, bp2, bp3, bp4, bp5, bq0, bq1, bq2, bq3, bq4, bq5⟩
  clear hK KK
  try simp only [Act.put, zq1, zq2, zq3, zq4, zq5, zq6]
  refine wpAnyH_ready (rs := [4]) (by kernel_rfl) (by simp) ?_
  refine AllReadyH.cons rfl (fun KK hK => ?_) AllReadyH.nil
  simp only [zq1, zq2, zq3]
  rw [if_pos (by rfl)]
  refine wps1 27 (.tmp 18) _ rfl in_l7fits (.agg #[.bool W1, vA, .int .i64 D1, .bool W2, vB, .int .i64 D2]) rfl (mkf _ _ _ _ _ rA rB) ?_
  rintro e w10 h5
  obtain ⟨q1, y1, M1, q2, y2, M2, vL, vM, rfl, rL, rM, k10, hq⟩ := ivS_open h5
  have HQ := hide hq
  clear hq h5
  obtain ⟨aL, dL, hv⟩ := Row.form' rL
  subst hv
  obtain ⟨aM, dM, hv⟩ := Row.form' rM
  subst hv
  refine ⟨_, rfl, ?_⟩
  replace r1 := r1.kp k10
  replace r2 := r2.kp k10
  replace r3 := r3.kp k10
  replace r4 := r4.kp k10
  replace rN := rN.kp k10
  replace rO := rO.kp k10
  replace rA := rA.kp k10
  replace rB := rB.kp k10
  replace Rf0 := k10.loose0 (zbl R0) Rf0
  replace Rf1 := k10.loose0 (zbl R1) Rf1
  replace Rf2 := k10.loose0 (zbl R2) Rf2
  replace Rf3 := k10.loose0 (zbl R3) Rf3
  replace Rf4 := k10.loose0 (zbl R4) Rf4
  replace Rf5 := k10.loose0 (zbl R5) Rf5
  replace bp0 := k10.cell0 bp0
  replace bp1 := k10.cell0 bp1
  replace bp2 := k10.cell0 bp2
  replace bp3 := k10.cell0 bp3
  replace bp4 := k10.cell0 bp4
  replace bp5 := k10.cell0 bp5
  replace bq0 := k10.cell0 bq0
  replace bq1 := k10.cell0 bq1
  replace bq2 := k10.cell0 bq2
  replace bq3 := k10.cell0 bq3
  replace bq4 := k10.cell0 bq4
  replace bq5 := k10.cell0 bq5
  replace R0 := k10.cell0 R0
  replace R1 := k10.cell0 R1
  replace R2 := k10.cell0 R2
  replace R3 := k10.cell0 R3
  replace R4 := k10.cell0 R4
  replace R5 := k10.cell0 R5
  replace K := hide ((unhide K).trans k10)
  have z11 := k10.size
  clear k10
  clear hH
  refine hK.out _ _ ?_ (fun hH => ?_)
  ·exact ⟨bp0, bp1, bp2, bp3, bp4, bp5, bq0, bq1, bq2, bq3, bq4, bq5⟩
  clear hK KK
  try simp only [Act.put, zq1, zq2, zq3, zq4, zq5, zq6]
  refine wpAnyH_take (i := 5) (v := .agg #[.bool q1, .slice aL M1.length dL, .int .i64 y1, .bool q2, .slice aM M2.length dM, .int .i64 y2]) rfl (by kernel_rfl) (by kernel_rfl) (by kernel_rfl) (fun _ _ _ h => h) (Or.inl ⟨by rfl, ?_⟩) hH ?_
  ·intro wq hSw
   try dsimp only at hSw
   go_simp
  try simp only [Act.put, zq1, zq2, zq3, zq4, zq5, zq6]
  refine wpAnyH_take (i := 6) (v := .bool CC) rfl (by kernel_rfl) (by kernel_rfl) (by kernel_rfl) (fun _ _ _ h => h) (Or.inl ⟨by rfl, ?_⟩) hH ?_
  ·intro wq hSw
   try dsimp only at hSw
   go_simp
  try simp only [Act.put, zq1, zq2, zq3, zq4, zq5, zq6]
  refine wpAnyH_ready (rs := [7]) (by kernel_rfl) (by simp) ?_
  refine AllReadyH.cons rfl (fun KK hK => ?_) AllReadyH.nil
  simp only [zq1, zq2, zq3]
  rw [if_pos (by rfl)]
  go_simp
  clear hH
  refine hK.out _ _ ?_ (fun hH => ?_)
  ·exact ⟨(cw6 (by have := unhide S0; dsimp only; omega) bp0), (cw6 (by have := unhide S0; dsimp only; omega) bp1), (cw6 (by have := unhide S0; dsimp only; omega) bp2), (cw6 (by have := unhide S0; dsimp only; omega) bp3), (cw6 (by have := unhide S0; dsimp only; omega) bp4), (cw6 (by have := unhide S0; dsimp only; omega) bp5), (cw6 (by have := unhide S0; dsimp only; omega) bq0), (cw6 (by have := unhide S0; dsimp only; omega) bq1), (cw6 (by have := unhide S0; dsimp only; omega) bq2), (cw6 (by have := unhide S0; dsimp only; omega) bq3), (cw6 (by have := unhide S0; dsimp only; omega) bq4), (cw6 (by have := unhide S0; dsimp only; omega) bq5)⟩
  clear hK KK
  try simp only [Act.put, zq1, zq2, zq3, zq4, zq5, zq6]
  refine wpAnyH_take (i := 8) (v := .bool CC) rfl (by kernel_rfl) (by kernel_rfl) (by kernel_rfl) (fun _ _ _ h => h) (Or.inl ⟨by rfl, ?_⟩) hH ?_
  ·intro wq hSw
   try dsimp only at hSw
   go_simp
  try simp only [Act.put, zq1, zq2, zq3, zq4, zq5, zq6]
  refine wpAnyH_done (by kernel_rfl) ?_ _
  clear hH
  clear mkn mka mkf
  have RA := hide (((((((rL.set_other (p := ⟨w.heap.size + 2, 0, none⟩) (.inl (by have := unhide S0; dsimp only; omega)) (.bool q1)).set_other (p := ⟨w.heap.size + 2, 1, none⟩) (.inl (by have := unhide S0; dsimp only; omega)) (.slice aL M1.length dL)).set_other (p := ⟨w.heap.size + 2, 2, none⟩) (.inl (by have := unhide S0; dsimp only; omega)) (.int .i64 y1)).set_other (p := ⟨w.heap.size + 2, 3, none⟩) (.inl (by have := unhide S0; dsimp only; omega)) (.bool q2)).set_other (p := ⟨w.heap.size + 2, 4, none⟩) (.inl (by have := unhide S0; dsimp only; omega)) (.slice aM M2.length dM)).set_other (p := ⟨w.heap.size + 2, 5, none⟩) (.inl (by have := unhide S0; dsimp only; omega)) (.int .i64 y2)).tight.wider (lo' := w.heap.size) (by have := unhide S0; omega) (Nat.le_refl _))
  have RB := hide (((((((rM.set_other (p := ⟨w.heap.size + 2, 0, none⟩) (.inl (by have := unhide S0; dsimp only; omega)) (.bool q1)).set_other (p := ⟨w.heap.size + 2, 1, none⟩) (.inl (by have := unhide S0; dsimp only; omega)) (.slice aL M1.length dL)).set_other (p := ⟨w.heap.size + 2, 2, none⟩) (.inl (by have := unhide S0; dsimp only; omega)) (.int .i64 y1)).set_other (p := ⟨w.heap.size + 2, 3, none⟩) (.inl (by have := unhide S0; dsimp only; omega)) (.bool q2)).set_other (p := ⟨w.heap.size + 2, 4, none⟩) (.inl (by have := unhide S0; dsimp only; omega)) (.slice aM M2.length dM)).set_other (p := ⟨w.heap.size + 2, 5, none⟩) (.inl (by have := unhide S0; dsimp only; omega)) (.int .i64 y2)).tight.wider (lo' := w.heap.size) (by have := unhide S0; omega) (Nat.le_refl _))
  have K7 := hide (((((((unhide K).setNew (p := ⟨w.heap.size + 2, 0, none⟩) (by simp) (.bool q1)).setNew (p := ⟨w.heap.size + 2, 1, none⟩) (by simp) (.slice aL M1.length dL)).setNew (p := ⟨w.heap.size + 2, 2, none⟩) (by simp) (.int .i64 y1)).setNew (p := ⟨w.heap.size + 2, 3, none⟩) (by simp) (.bool q2)).setNew (p := ⟨w.heap.size + 2, 4, none⟩) (by simp) (.slice aM M2.length dM)).setNew (p := ⟨w.heap.size + 2, 5, none⟩) (by simp) (.int .i64 y2))
  clear r1 r2 r3 r4 rN rO rA rB K
  go_wp2_with fail
  exact bodyPost_ret (v := .tuple #[.agg #[.bool q1, .slice aL M1.length dL, .int .i64 y1, .bool q2, .slice aM M2.length dM, .int .i64 y2], .bool CC]) (by simp [results, Tryd.results20, go_sem, R0, R1, R2, R3, R4, R5]) rfl (ivS_shut (unhide HQ) (unhide RA) (unhide RB) (unhide K7))

end Go.Proofs.YtbihbloknmjfjaaDoor
