/-
  IvMatAdd of the model.
-/
import Derived.Test.YthahoabkehcgbaaGreatDoorqsHf1
import Derived.Test.YthahoabkehcgbaaGreatDoorqsHa1
import Derived.Deep.DeepCutAuto
import Derived.Deep.RegionHeld3
namespace Go.Proofs.YthahoabkehcgbaaGreatDoor
open Go.RowKit
set_option linter.unusedVariables false
set_option maxRecDepth 8000
set_option linter.unusedSimpArgs false

theorem in_l7addV : ∀ (w : World) (args : Array Value), (callFunc 89 args).run Tryz.prog w = .ok (.enter 89 args) w := enters Tryz.func89 (by decide) (fun h => by cases h)

set_option maxHeartbeats 8000000 in
theorem add7v_spec {l0 h0 l1 h1 l2 h2 l3 h3 : Nat} {u0 u1 u2 u3 : Value} {z0 z1 z2 z3 : List Int} (s0 s1 s2 s3 : Bool) (y0 y1 y2 y3 : Int) (w : World) (r0 : Row .i64 false l0 h0 w u0 z0) (r1 : Row .i64 false l1 h1 w u1 z1) (r2 : Row .i64 false l2 h2 w u2 z2) (r3 : Row .i64 false l3 h3 w u3 z3) (k0 : dOkE (s0, z0, y0) = true) (k1 : dOkE (s1, z1, y1) = true) (k2 : dOkE (s2, z2, y2) = true) (k3 : dOkE (s3, z3, y3) = true) {t0 t1 : Bool} {x0 x1 : List Int} {p0 p1 : Int} (e0 : (t0, x0, p0) = nE (dv (-3000) (s0, z0, y0) + dv (-3000) (s2, z2, y2)) (-3000)) (e1 : (t1, x1, p1) = nE (dv (-3000) (s1, z1, y1) + dv (-3000) (s3, z3, y3)) (-3000)) :
    Calls Tryz.prog 89 #[.agg #[.bool s0, u0, .int .i64 y0, .bool s1, u1, .int .i64 y1], .agg #[.bool s2, u2, .int .i64 y2, .bool s3, u3, .int .i64 y3]] w fun e w' => ∃ v1 v2 mid, e = .returned (.agg #[.bool t0, v1, .int .i64 p0, .bool t1, v2, .int .i64 p1]) ∧ Row .i64 true w.heap.size mid w' v1 x0 ∧ Row .i64 true mid w'.heap.size w' v2 x1 ∧ w.heap.size ≤ mid ∧ mid ≤ w'.heap.size ∧ Kept 0 0 w w' := by
  obtain ⟨a0, c0, hv⟩ := Row.form' r0
  subst hv
  obtain ⟨a1, c1, hv⟩ := Row.form' r1
  subst hv
  obtain ⟨a2, c2, hv⟩ := Row.form' r2
  subst hv
  obtain ⟨a3, c3, hv⟩ := Row.form' r3
  subst hv
  have iv0 := (dok_nv k0 (Int.le_refl (-3000))).1
  have iv1 := (dok_nv k1 (Int.le_refl (-3000))).1
  have iv2 := (dok_nv k2 (Int.le_refl (-3000))).1
  have iv3 := (dok_nv k3 (Int.le_refl (-3000))).1
  rw [← sum_nE iv0 iv2] at e0
  rw [← sum_nE iv1 iv3] at e1
  obtain ⟨W, hW⟩ : ∃ W, W = ((w.alloc (.cells #[.bool s0, .slice a0 z0.length c0, .int .i64 y0, .bool s1, .slice a1 z1.length c1, .int .i64 y1] 102)).alloc (.cells #[.bool s2, .slice a2 z2.length c2, .int .i64 y2, .bool s3, .slice a3 z3.length c3, .int .i64 y3] 102)).alloc (.cells #[.bool false, .slice none 0 0, .int .i64 0, .bool false, .slice none 0 0, .int .i64 0] 102) := ⟨_, rfl⟩
  have kk0 : Kept 0 0 w W := by rw [hW]; exact (((Kept.refl 0 0 w).alloc _).alloc _).alloc _
  have g00 : W.cell? ⟨w.heap.size, 0, none⟩ = some (.bool s0) := by rw [hW]; exact old_cell _ (old_cell _ (new_cell2 _ _ _ _ _ _ rfl rfl))
  have g01 : W.cell? ⟨w.heap.size, 1, none⟩ = some (.slice a0 z0.length c0) := by rw [hW]; exact old_cell _ (old_cell _ (new_cell2 _ _ _ _ _ _ rfl rfl))
  have g02 : W.cell? ⟨w.heap.size, 2, none⟩ = some (.int .i64 y0) := by rw [hW]; exact old_cell _ (old_cell _ (new_cell2 _ _ _ _ _ _ rfl rfl))
  have g03 : W.cell? ⟨w.heap.size, 3, none⟩ = some (.bool s1) := by rw [hW]; exact old_cell _ (old_cell _ (new_cell2 _ _ _ _ _ _ rfl rfl))
  have g04 : W.cell? ⟨w.heap.size, 4, none⟩ = some (.slice a1 z1.length c1) := by rw [hW]; exact old_cell _ (old_cell _ (new_cell2 _ _ _ _ _ _ rfl rfl))
  have g05 : W.cell? ⟨w.heap.size, 5, none⟩ = some (.int .i64 y1) := by rw [hW]; exact old_cell _ (old_cell _ (new_cell2 _ _ _ _ _ _ rfl rfl))
  have g10 : W.cell? ⟨w.heap.size + 1, 0, none⟩ = some (.bool s2) := by rw [hW]; exact old_cell _ (new_cell2 _ _ _ _ _ _ (by simp) rfl)
  have g11 : W.cell? ⟨w.heap.size + 1, 1, none⟩ = some (.slice a2 z2.length c2) := by rw [hW]; exact old_cell _ (new_cell2 _ _ _ _ _ _ (by simp) rfl)
  have g12 : W.cell? ⟨w.heap.size + 1, 2, none⟩ = some (.int .i64 y2) := by rw [hW]; exact old_cell _ (new_cell2 _ _ _ _ _ _ (by simp) rfl)
  have g13 : W.cell? ⟨w.heap.size + 1, 3, none⟩ = some (.bool s3) := by rw [hW]; exact old_cell _ (new_cell2 _ _ _ _ _ _ (by simp) rfl)
  have g14 : W.cell? ⟨w.heap.size + 1, 4, none⟩ = some (.slice a3 z3.length c3) := by rw [hW]; exact old_cell _ (new_cell2 _ _ _ _ _ _ (by simp) rfl)
  have g15 : W.cell? ⟨w.heap.size + 1, 5, none⟩ = some (.int .i64 y3) := by rw [hW]; exact old_cell _ (new_cell2 _ _ _ _ _ _ (by simp) rfl)
  have q0 : W.cell? ⟨w.heap.size + 2, 0, none⟩ = some (.bool false) := by rw [hW]; exact new_cell2 _ _ _ _ _ _ (by simp) rfl
  have f0 : W.frozen? ⟨w.heap.size + 2, 0, none⟩ = false := by rw [hW]; exact new_loose2 _ _ _ _ _ (by simp)
  have q1 : W.cell? ⟨w.heap.size + 2, 1, none⟩ = some (.slice none 0 0) := by rw [hW]; exact new_cell2 _ _ _ _ _ _ (by simp) rfl
  have f1 : W.frozen? ⟨w.heap.size + 2, 1, none⟩ = false := by rw [hW]; exact new_loose2 _ _ _ _ _ (by simp)
  have q2 : W.cell? ⟨w.heap.size + 2, 2, none⟩ = some (.int .i64 0) := by rw [hW]; exact new_cell2 _ _ _ _ _ _ (by simp) rfl
  have f2 : W.frozen? ⟨w.heap.size + 2, 2, none⟩ = false := by rw [hW]; exact new_loose2 _ _ _ _ _ (by simp)
  have q3 : W.cell? ⟨w.heap.size + 2, 3, none⟩ = some (.bool false) := by rw [hW]; exact new_cell2 _ _ _ _ _ _ (by simp) rfl
  have f3 : W.frozen? ⟨w.heap.size + 2, 3, none⟩ = false := by rw [hW]; exact new_loose2 _ _ _ _ _ (by simp)
  have q4 : W.cell? ⟨w.heap.size + 2, 4, none⟩ = some (.slice none 0 0) := by rw [hW]; exact new_cell2 _ _ _ _ _ _ (by simp) rfl
  have f4 : W.frozen? ⟨w.heap.size + 2, 4, none⟩ = false := by rw [hW]; exact new_loose2 _ _ _ _ _ (by simp)
  have q5 : W.cell? ⟨w.heap.size + 2, 5, none⟩ = some (.int .i64 0) := by rw [hW]; exact new_cell2 _ _ _ _ _ _ (by simp) rfl
  have f5 : W.frozen? ⟨w.heap.size + 2, 5, none⟩ = false := by rw [hW]; exact new_loose2 _ _ _ _ _ (by simp)
  have SW : Hid (W.heap.size = w.heap.size + 3) := by show _ = _; rw [hW]; simp
  have kz := (Kept.refl 0 0 W).drew
  have kd := kk0.trans kz
  have HAD0 : Hid (∀ w' : World, Kept 0 0 w w' → Calls Tryz.prog 124 #[.agg #[.bool s0, .slice a0 z0.length c0, .int .i64 y0], .agg #[.bool s2, .slice a2 z2.length c2, .int .i64 y2]] w' fun e w'' => ∃ v', e = .returned (.agg #[.bool t0, v', .int .i64 p0]) ∧ Row .i64 true w'.heap.size w''.heap.size w'' v' x0 ∧ Kept 0 0 w' w'') := fun w' kw' => by
    have := add4_wide s0 s2 y0 y2 w' (r0.kept kw' (by omega)) (r2.kept kw' (by omega)) (dok_wb k0) (dok_wb k2)
    have e := e0
    unfold sumM nE at e
    dsimp only at e
    simp only [Prod.mk.injEq] at e
    rw [← e.1, ← e.2.1, ← e.2.2] at this
    exact this
  have HAD1 : Hid (∀ w' : World, Kept 0 0 w w' → Calls Tryz.prog 124 #[.agg #[.bool s1, .slice a1 z1.length c1, .int .i64 y1], .agg #[.bool s3, .slice a3 z3.length c3, .int .i64 y3]] w' fun e w'' => ∃ v', e = .returned (.agg #[.bool t1, v', .int .i64 p1]) ∧ Row .i64 true w'.heap.size w''.heap.size w'' v' x1 ∧ Kept 0 0 w' w'') := fun w' kw' => by
    have := add4_wide s1 s3 y1 y3 w' (r1.kept kw' (by omega)) (r3.kept kw' (by omega)) (dok_wb k1) (dok_wb k3)
    have e := e1
    unfold sumM nE at e
    dsimp only at e
    simp only [Prod.mk.injEq] at e
    rw [← e.1, ← e.2.1, ← e.2.2] at this
    exact this
  have KX := hide kd
  replace f0 := kz.loose0 (World.block_lt_of_cell? _ _ q0) f0
  replace f1 := kz.loose0 (World.block_lt_of_cell? _ _ q1) f1
  replace f2 := kz.loose0 (World.block_lt_of_cell? _ _ q2) f2
  replace f3 := kz.loose0 (World.block_lt_of_cell? _ _ q3) f3
  replace f4 := kz.loose0 (World.block_lt_of_cell? _ _ q4) f4
  replace f5 := kz.loose0 (World.block_lt_of_cell? _ _ q5) f5
  replace g00 := kz.cell0 g00
  replace g01 := kz.cell0 g01
  replace g02 := kz.cell0 g02
  replace g03 := kz.cell0 g03
  replace g04 := kz.cell0 g04
  replace g05 := kz.cell0 g05
  replace g10 := kz.cell0 g10
  replace g11 := kz.cell0 g11
  replace g12 := kz.cell0 g12
  replace g13 := kz.cell0 g13
  replace g14 := kz.cell0 g14
  replace g15 := kz.cell0 g15
  replace q0 := kz.cell0 q0
  replace q1 := kz.cell0 q1
  replace q2 := kz.cell0 q2
  replace q3 := kz.cell0 q3
  replace q4 := kz.cell0 q4
  replace q5 := kz.cell0 q5
  clear kd kz kk0 r0 r1 r2 r3 k0 k1 k2 k3 e0 e1 iv0 iv1 iv2 iv3
  go_enter Tryz.func89, Tryz.ntmps89
  go_wp2_with fail
  rw [← hW]
  clear hW
  refine wp_region_held_drew (S := (fun w' => w'.cell? ⟨w.heap.size, 0, none⟩ = some (.bool s0) ∧ w'.cell? ⟨w.heap.size, 1, none⟩ = some (.slice a0 z0.length c0) ∧ w'.cell? ⟨w.heap.size, 2, none⟩ = some (.int .i64 y0) ∧ w'.cell? ⟨w.heap.size, 3, none⟩ = some (.bool s1) ∧ w'.cell? ⟨w.heap.size, 4, none⟩ = some (.slice a1 z1.length c1) ∧ w'.cell? ⟨w.heap.size, 5, none⟩ = some (.int .i64 y1) ∧ w'.cell? ⟨w.heap.size + 1, 0, none⟩ = some (.bool s2) ∧ w'.cell? ⟨w.heap.size + 1, 1, none⟩ = some (.slice a2 z2.length c2) ∧ w'.cell? ⟨w.heap.size + 1, 2, none⟩ = some (.int .i64 y2) ∧ w'.cell? ⟨w.heap.size + 1, 3, none⟩ = some (.bool s3) ∧ w'.cell? ⟨w.heap.size + 1, 4, none⟩ = some (.slice a3 z3.length c3) ∧ w'.cell? ⟨w.heap.size + 1, 5, none⟩ = some (.int .i64 y3))) (by kernel_rfl) ?_ (fun hHeld => ?_)
  · exact ⟨g00, g01, g02, g03, g04, g05, g10, g11, g12, g13, g14, g15⟩
  refine wpAnyH_take (i := 0) (oi := _) (v := .pointer (some ⟨w.heap.size, 0, none⟩)) rfl (by kernel_rfl) (by kernel_rfl) (by kernel_rfl) (fun _ _ _ h => h) (Or.inl ⟨by rfl, ?_⟩) hHeld ?_
  · intro wq hSw
    try dsimp only at hSw
    go_simp
  try simp only [Act.put, List.getElem_toArray, List.getElem_cons_succ, List.getElem_cons_zero, List.setIfInBounds_toArray, List.set_cons_zero, List.set_cons_succ]
  refine wpAnyH_take (i := 1) (oi := _) (v := .agg #[.bool s0, .slice a0 z0.length c0, .int .i64 y0]) rfl (by kernel_rfl) (by kernel_rfl) (by kernel_rfl) (fun _ _ _ h => h) (Or.inl ⟨by rfl, ?_⟩) hHeld ?_
  · intro wq hSw
    try dsimp only at hSw
    go_simp
  try simp only [Act.put, List.getElem_toArray, List.getElem_cons_succ, List.getElem_cons_zero, List.setIfInBounds_toArray, List.set_cons_zero, List.set_cons_succ]
  refine wpAnyH_take (i := 2) (oi := _) (v := .pointer (some ⟨w.heap.size + 1, 0, none⟩)) rfl (by kernel_rfl) (by kernel_rfl) (by kernel_rfl) (fun _ _ _ h => h) (Or.inl ⟨by rfl, ?_⟩) hHeld ?_
  · intro wq hSw
    try dsimp only at hSw
    go_simp
  try simp only [Act.put, List.getElem_toArray, List.getElem_cons_succ, List.getElem_cons_zero, List.setIfInBounds_toArray, List.set_cons_zero, List.set_cons_succ]
  refine wpAnyH_take (i := 3) (oi := _) (v := .agg #[.bool s2, .slice a2 z2.length c2, .int .i64 y2]) rfl (by kernel_rfl) (by kernel_rfl) (by kernel_rfl) (fun _ _ _ h => h) (Or.inl ⟨by rfl, ?_⟩) hHeld ?_
  · intro wq hSw
    try dsimp only at hSw
    go_simp
  try simp only [Act.put, List.getElem_toArray, List.getElem_cons_succ, List.getElem_cons_zero, List.setIfInBounds_toArray, List.set_cons_zero, List.set_cons_succ]
  refine wpAnyH_take (i := 5) (oi := _) (v := .pointer (some ⟨w.heap.size, 3, none⟩)) rfl (by kernel_rfl) (by kernel_rfl) (by kernel_rfl) (fun _ _ _ h => h) (Or.inl ⟨by rfl, ?_⟩) hHeld ?_
  · intro wq hSw
    try dsimp only at hSw
    go_simp
  try simp only [Act.put, List.getElem_toArray, List.getElem_cons_succ, List.getElem_cons_zero, List.setIfInBounds_toArray, List.set_cons_zero, List.set_cons_succ]
  refine wpAnyH_take (i := 6) (oi := _) (v := .agg #[.bool s1, .slice a1 z1.length c1, .int .i64 y1]) rfl (by kernel_rfl) (by kernel_rfl) (by kernel_rfl) (fun _ _ _ h => h) (Or.inl ⟨by rfl, ?_⟩) hHeld ?_
  · intro wq hSw
    try dsimp only at hSw
    go_simp
  try simp only [Act.put, List.getElem_toArray, List.getElem_cons_succ, List.getElem_cons_zero, List.setIfInBounds_toArray, List.set_cons_zero, List.set_cons_succ]
  refine wpAnyH_take (i := 7) (oi := _) (v := .pointer (some ⟨w.heap.size + 1, 3, none⟩)) rfl (by kernel_rfl) (by kernel_rfl) (by kernel_rfl) (fun _ _ _ h => h) (Or.inl ⟨by rfl, ?_⟩) hHeld ?_
  · intro wq hSw
    try dsimp only at hSw
    go_simp
  try simp only [Act.put, List.getElem_toArray, List.getElem_cons_succ, List.getElem_cons_zero, List.setIfInBounds_toArray, List.set_cons_zero, List.set_cons_succ]
  refine wpAnyH_take (i := 8) (oi := _) (v := .agg #[.bool s3, .slice a3 z3.length c3, .int .i64 y3]) rfl (by kernel_rfl) (by kernel_rfl) (by kernel_rfl) (fun _ _ _ h => h) (Or.inl ⟨by rfl, ?_⟩) hHeld ?_
  · intro wq hSw
    try dsimp only at hSw
    go_simp
  try simp only [Act.put, List.getElem_toArray, List.getElem_cons_succ, List.getElem_cons_zero, List.setIfInBounds_toArray, List.set_cons_zero, List.set_cons_succ]
  have KZ := hide (Kept.refl 0 0 W.drew)
  have hdz : Hid (W.drew.heap.size = w.heap.size + 3) := unhide SW
  generalize W.drew = wd at *
  refine wpAnyH_ready (rs := [4]) (by kernel_rfl) (by simp) ?_
  refine AllReadyH.cons rfl (fun KK hK => ?_) AllReadyH.nil
  simp only [List.getElem_toArray, List.getElem_cons_succ, List.getElem_cons_zero]
  rw [if_pos (by rfl)]
  refine wps2 124 (.tmp 6) (.tmp 8) _ rfl in_l4add (.agg #[.bool s0, .slice a0 z0.length c0, .int .i64 y0]) (.agg #[.bool s2, .slice a2 z2.length c2, .int .i64 y2]) rfl rfl (unhide HAD0 _ (unhide KX)) ?_
  rintro e w4 ⟨v4, rfl, r4, k4⟩
  refine ⟨_, rfl, ?_⟩
  obtain ⟨a4, c4, hv⟩ := Row.form' r4
  subst hv
  have U0 := hide r4
  replace KX := hide ((unhide KX).trans k4)
  have Z4 := hide k4.size
  replace f0 := k4.loose0 (World.block_lt_of_cell? _ _ q0) f0
  replace f1 := k4.loose0 (World.block_lt_of_cell? _ _ q1) f1
  replace f2 := k4.loose0 (World.block_lt_of_cell? _ _ q2) f2
  replace f3 := k4.loose0 (World.block_lt_of_cell? _ _ q3) f3
  replace f4 := k4.loose0 (World.block_lt_of_cell? _ _ q4) f4
  replace f5 := k4.loose0 (World.block_lt_of_cell? _ _ q5) f5
  replace g00 := k4.cell0 g00
  replace g01 := k4.cell0 g01
  replace g02 := k4.cell0 g02
  replace g03 := k4.cell0 g03
  replace g04 := k4.cell0 g04
  replace g05 := k4.cell0 g05
  replace g10 := k4.cell0 g10
  replace g11 := k4.cell0 g11
  replace g12 := k4.cell0 g12
  replace g13 := k4.cell0 g13
  replace g14 := k4.cell0 g14
  replace g15 := k4.cell0 g15
  replace q0 := k4.cell0 q0
  replace q1 := k4.cell0 q1
  replace q2 := k4.cell0 q2
  replace q3 := k4.cell0 q3
  replace q4 := k4.cell0 q4
  replace q5 := k4.cell0 q5
  clear r4 k4 HAD0 KZ
  clear hHeld
  refine hK.out _ _ ?_ (fun hHeld => ?_)
  · exact ⟨g00, g01, g02, g03, g04, g05, g10, g11, g12, g13, g14, g15⟩
  clear hK KK
  try simp only [Act.put, List.getElem_toArray, List.getElem_cons_succ, List.getElem_cons_zero, List.setIfInBounds_toArray, List.set_cons_zero, List.set_cons_succ]
  refine wpAnyH_ready (rs := [9]) (by kernel_rfl) (by simp) ?_
  refine AllReadyH.cons rfl (fun KK hK => ?_) AllReadyH.nil
  simp only [List.getElem_toArray, List.getElem_cons_succ, List.getElem_cons_zero]
  rw [if_pos (by rfl)]
  refine wps2 124 (.tmp 11) (.tmp 13) _ rfl in_l4add (.agg #[.bool s1, .slice a1 z1.length c1, .int .i64 y1]) (.agg #[.bool s3, .slice a3 z3.length c3, .int .i64 y3]) rfl rfl (unhide HAD1 _ (unhide KX)) ?_
  rintro e w5 ⟨v5, rfl, r5, k5⟩
  refine ⟨_, rfl, ?_⟩
  obtain ⟨a5, c5, hv⟩ := Row.form' r5
  subst hv
  have U1 := hide r5
  replace U0 := hide ((unhide U0).kept k5 (.inr (.inr (Nat.le_refl 0))))
  replace KX := hide ((unhide KX).trans k5)
  have Z5 := hide k5.size
  replace f0 := k5.loose0 (World.block_lt_of_cell? _ _ q0) f0
  replace f1 := k5.loose0 (World.block_lt_of_cell? _ _ q1) f1
  replace f2 := k5.loose0 (World.block_lt_of_cell? _ _ q2) f2
  replace f3 := k5.loose0 (World.block_lt_of_cell? _ _ q3) f3
  replace f4 := k5.loose0 (World.block_lt_of_cell? _ _ q4) f4
  replace f5 := k5.loose0 (World.block_lt_of_cell? _ _ q5) f5
  replace g00 := k5.cell0 g00
  replace g01 := k5.cell0 g01
  replace g02 := k5.cell0 g02
  replace g03 := k5.cell0 g03
  replace g04 := k5.cell0 g04
  replace g05 := k5.cell0 g05
  replace g10 := k5.cell0 g10
  replace g11 := k5.cell0 g11
  replace g12 := k5.cell0 g12
  replace g13 := k5.cell0 g13
  replace g14 := k5.cell0 g14
  replace g15 := k5.cell0 g15
  replace q0 := k5.cell0 q0
  replace q1 := k5.cell0 q1
  replace q2 := k5.cell0 q2
  replace q3 := k5.cell0 q3
  replace q4 := k5.cell0 q4
  replace q5 := k5.cell0 q5
  clear r5 k5 HAD1
  clear hHeld
  refine hK.out _ _ ?_ (fun hHeld => ?_)
  · exact ⟨g00, g01, g02, g03, g04, g05, g10, g11, g12, g13, g14, g15⟩
  clear hK KK
  try simp only [Act.put, List.getElem_toArray, List.getElem_cons_succ, List.getElem_cons_zero, List.setIfInBounds_toArray, List.set_cons_zero, List.set_cons_succ]
  refine wpAnyH_take (i := 10) (oi := _) (v := .agg #[.bool t0, .slice a4 x0.length c4, .int .i64 p0, .bool t1, .slice a5 x1.length c5, .int .i64 p1]) rfl (by kernel_rfl) (by kernel_rfl) (by kernel_rfl) (fun _ _ _ h => h) (Or.inl ⟨by rfl, ?_⟩) hHeld ?_
  · intro wq hSw
    try dsimp only at hSw
    go_simp
  try simp only [Act.put, List.getElem_toArray, List.getElem_cons_succ, List.getElem_cons_zero, List.setIfInBounds_toArray, List.set_cons_zero, List.set_cons_succ]
  refine wpAnyH_ready (rs := [11]) (by kernel_rfl) (by simp) ?_
  refine AllReadyH.cons rfl (fun KK hK => ?_) AllReadyH.nil
  simp only [List.getElem_toArray, List.getElem_cons_succ, List.getElem_cons_zero]
  rw [if_pos (by rfl)]
  go_simp
  have ks : Kept (w.heap.size + 2) (w.heap.size + 3) w5 ((((((w5.setCell ⟨w.heap.size + 2, 0, none⟩ (.bool t0)).setCell ⟨w.heap.size + 2, 1, none⟩ (.slice a4 x0.length c4)).setCell ⟨w.heap.size + 2, 2, none⟩ (.int .i64 p0)).setCell ⟨w.heap.size + 2, 3, none⟩ (.bool t1)).setCell ⟨w.heap.size + 2, 4, none⟩ (.slice a5 x1.length c5)).setCell ⟨w.heap.size + 2, 5, none⟩ (.int .i64 p1)) := (((((((Kept.refl (w.heap.size + 2) (w.heap.size + 3) w5).setCell (p := ⟨w.heap.size + 2, 0, none⟩) (Nat.le_refl _) (Nat.lt_succ_self _) (.bool t0)).setCell (p := ⟨w.heap.size + 2, 1, none⟩) (Nat.le_refl _) (Nat.lt_succ_self _) (.slice a4 x0.length c4)).setCell (p := ⟨w.heap.size + 2, 2, none⟩) (Nat.le_refl _) (Nat.lt_succ_self _) (.int .i64 p0)).setCell (p := ⟨w.heap.size + 2, 3, none⟩) (Nat.le_refl _) (Nat.lt_succ_self _) (.bool t1)).setCell (p := ⟨w.heap.size + 2, 4, none⟩) (Nat.le_refl _) (Nat.lt_succ_self _) (.slice a5 x1.length c5)).setCell (p := ⟨w.heap.size + 2, 5, none⟩) (Nat.le_refl _) (Nat.lt_succ_self _) (.int .i64 p1))
  replace g00 := ks.cellOut (by dsimp only; omega) g00
  replace g01 := ks.cellOut (by dsimp only; omega) g01
  replace g02 := ks.cellOut (by dsimp only; omega) g02
  replace g03 := ks.cellOut (by dsimp only; omega) g03
  replace g04 := ks.cellOut (by dsimp only; omega) g04
  replace g05 := ks.cellOut (by dsimp only; omega) g05
  replace g10 := ks.cellOut (by dsimp only; omega) g10
  replace g11 := ks.cellOut (by dsimp only; omega) g11
  replace g12 := ks.cellOut (by dsimp only; omega) g12
  replace g13 := ks.cellOut (by dsimp only; omega) g13
  replace g14 := ks.cellOut (by dsimp only; omega) g14
  replace g15 := ks.cellOut (by dsimp only; omega) g15
  clear hHeld
  refine hK.out _ _ ?_ (fun hHeld => ?_)
  · exact ⟨g00, g01, g02, g03, g04, g05, g10, g11, g12, g13, g14, g15⟩
  clear hK KK
  try simp only [Act.put, List.getElem_toArray, List.getElem_cons_succ, List.getElem_cons_zero, List.setIfInBounds_toArray, List.set_cons_zero, List.set_cons_succ]
  refine wpAnyH_done (by kernel_rfl) ?_ _
  clear hHeld
  have G0 := (cell_off _ _ _ 5 (.int .i64 p1) _ (cell_off _ _ _ 4 (.slice a5 x1.length c5) _ (cell_off _ _ _ 3 (.bool t1) _ (cell_off _ _ _ 2 (.int .i64 p0) _ (cell_off _ _ _ 1 (.slice a4 x0.length c4) _ (cell_on _ _ _ (.bool t0) _ q0) (show (0 : Nat) ≠ 1 by omega)) (show (0 : Nat) ≠ 2 by omega)) (show (0 : Nat) ≠ 3 by omega)) (show (0 : Nat) ≠ 4 by omega)) (show (0 : Nat) ≠ 5 by omega))
  have G1 := (cell_off _ _ _ 5 (.int .i64 p1) _ (cell_off _ _ _ 4 (.slice a5 x1.length c5) _ (cell_off _ _ _ 3 (.bool t1) _ (cell_off _ _ _ 2 (.int .i64 p0) _ (cell_on _ _ _ (.slice a4 x0.length c4) _ (cell_off _ _ _ 0 (.bool t0) _ q1 (show (1 : Nat) ≠ 0 by omega))) (show (1 : Nat) ≠ 2 by omega)) (show (1 : Nat) ≠ 3 by omega)) (show (1 : Nat) ≠ 4 by omega)) (show (1 : Nat) ≠ 5 by omega))
  have G2 := (cell_off _ _ _ 5 (.int .i64 p1) _ (cell_off _ _ _ 4 (.slice a5 x1.length c5) _ (cell_off _ _ _ 3 (.bool t1) _ (cell_on _ _ _ (.int .i64 p0) _ (cell_off _ _ _ 1 (.slice a4 x0.length c4) _ (cell_off _ _ _ 0 (.bool t0) _ q2 (show (2 : Nat) ≠ 0 by omega)) (show (2 : Nat) ≠ 1 by omega))) (show (2 : Nat) ≠ 3 by omega)) (show (2 : Nat) ≠ 4 by omega)) (show (2 : Nat) ≠ 5 by omega))
  have G3 := (cell_off _ _ _ 5 (.int .i64 p1) _ (cell_off _ _ _ 4 (.slice a5 x1.length c5) _ (cell_on _ _ _ (.bool t1) _ (cell_off _ _ _ 2 (.int .i64 p0) _ (cell_off _ _ _ 1 (.slice a4 x0.length c4) _ (cell_off _ _ _ 0 (.bool t0) _ q3 (show (3 : Nat) ≠ 0 by omega)) (show (3 : Nat) ≠ 1 by omega)) (show (3 : Nat) ≠ 2 by omega))) (show (3 : Nat) ≠ 4 by omega)) (show (3 : Nat) ≠ 5 by omega))
  have G4 := (cell_off _ _ _ 5 (.int .i64 p1) _ (cell_on _ _ _ (.slice a5 x1.length c5) _ (cell_off _ _ _ 3 (.bool t1) _ (cell_off _ _ _ 2 (.int .i64 p0) _ (cell_off _ _ _ 1 (.slice a4 x0.length c4) _ (cell_off _ _ _ 0 (.bool t0) _ q4 (show (4 : Nat) ≠ 0 by omega)) (show (4 : Nat) ≠ 1 by omega)) (show (4 : Nat) ≠ 2 by omega)) (show (4 : Nat) ≠ 3 by omega))) (show (4 : Nat) ≠ 5 by omega))
  have G5 := (cell_on _ _ _ (.int .i64 p1) _ (cell_off _ _ _ 4 (.slice a5 x1.length c5) _ (cell_off _ _ _ 3 (.bool t1) _ (cell_off _ _ _ 2 (.int .i64 p0) _ (cell_off _ _ _ 1 (.slice a4 x0.length c4) _ (cell_off _ _ _ 0 (.bool t0) _ q5 (show (5 : Nat) ≠ 0 by omega)) (show (5 : Nat) ≠ 1 by omega)) (show (5 : Nat) ≠ 2 by omega)) (show (5 : Nat) ≠ 3 by omega)) (show (5 : Nat) ≠ 4 by omega)))
  have z4 := unhide Z4
  have z5 := unhide Z5
  have hd := unhide hdz
  have hsz : ((((((w5.setCell ⟨w.heap.size + 2, 0, none⟩ (.bool t0)).setCell ⟨w.heap.size + 2, 1, none⟩ (.slice a4 x0.length c4)).setCell ⟨w.heap.size + 2, 2, none⟩ (.int .i64 p0)).setCell ⟨w.heap.size + 2, 3, none⟩ (.bool t1)).setCell ⟨w.heap.size + 2, 4, none⟩ (.slice a5 x1.length c5)).setCell ⟨w.heap.size + 2, 5, none⟩ (.int .i64 p1)).heap.size = w5.heap.size := by rw [size_set, size_set, size_set, size_set, size_set, size_set]
  have R4 := hide (((unhide U0).kept ks (by omega)).wider (lo' := w.heap.size) (by omega) (Nat.le_refl _))
  have R5 := hide (((unhide U1).kept ks (by omega)).wider (lo' := w4.heap.size) (hi' := ((((((w5.setCell ⟨w.heap.size + 2, 0, none⟩ (.bool t0)).setCell ⟨w.heap.size + 2, 1, none⟩ (.slice a4 x0.length c4)).setCell ⟨w.heap.size + 2, 2, none⟩ (.int .i64 p0)).setCell ⟨w.heap.size + 2, 3, none⟩ (.bool t1)).setCell ⟨w.heap.size + 2, 4, none⟩ (.slice a5 x1.length c5)).setCell ⟨w.heap.size + 2, 5, none⟩ (.int .i64 p1)).heap.size) (Nat.le_refl _) (by omega))
  have K9 := hide ((unhide KX).wide ks (by omega))
  have HZ : Hid (w.heap.size ≤ w4.heap.size ∧ w4.heap.size ≤ ((((((w5.setCell ⟨w.heap.size + 2, 0, none⟩ (.bool t0)).setCell ⟨w.heap.size + 2, 1, none⟩ (.slice a4 x0.length c4)).setCell ⟨w.heap.size + 2, 2, none⟩ (.int .i64 p0)).setCell ⟨w.heap.size + 2, 3, none⟩ (.bool t1)).setCell ⟨w.heap.size + 2, 4, none⟩ (.slice a5 x1.length c5)).setCell ⟨w.heap.size + 2, 5, none⟩ (.int .i64 p1)).heap.size) := ⟨by omega, by omega⟩
  clear ks hsz U0 U1 KX z4 z5 hd Z4 Z5 g00 g01 g02 g03 g04 g05 g10 g11 g12 g13 g14 g15
  go_wp2
  exact bodyPost_ret (v := .agg #[.bool t0, .slice a4 x0.length c4, .int .i64 p0, .bool t1, .slice a5 x1.length c5, .int .i64 p1]) (by simp [results, Tryz.results89, go_sem, G0, G1, G2, G3, G4, G5]) rfl ⟨_, _, w4.heap.size, rfl, unhide R4, unhide R5, (unhide HZ).1, (unhide HZ).2, unhide K9⟩

/-- Both are matrices of intervals, of one size. -/
def bothI (n1 : Int) (ds1 : List DE) (m1 : Nat) (n2 : Int) (ds2 : List DE) (m2 : Nat) : Bool := imokB n1 ds1 m1 && (imokB n2 ds2 m2 && decide (n1 = n2))
theorem bothI_n {n1 n2 : Int} {ds1 ds2 : List DE} {m1 m2 : Nat} (h : bothI n1 ds1 m1 n2 ds2 m2 = true) : 1 ≤ n1 ∧ n1 ≤ 4 := by
  unfold bothI at h
  rw [Bool.and_eq_true] at h
  exact ⟨(imok_parts h.1).1, (imok_parts h.1).2.1⟩
theorem ad_mono {n n' : Int} {ds ds' : List DE} {m p : Nat} (h : imokB n ds m = true) (h' : imokB n' ds' m = true) (hp : p < m) : adV ds ds' (2 * p) ≤ adV ds ds' (2 * p + 1) := by
  unfold adV
  have := imok_le h hp
  have := imok_le h' hp
  omega

set_option maxHeartbeats 8000000 in
theorem both10_spec {lo1 hi1 lo2 hi2 m1 m2 : Nat} {v1 v2 : Value} {ds1 ds2 : List DE} (n1 n2 : Int) (w : World) (hw1 : WfD ds1) (hw2 : WfD ds2) (r1 : Ivs lo1 hi1 w v1 ds1 m1) (r2 : Ivs lo2 hi2 w v2 ds2 m2) :
    Calls Tryz.prog 38 #[.agg #[.int .i64 n1, v1], .agg #[.int .i64 n2, v2]] w fun e w' => e = .returned (.bool (bothI n1 ds1 m1 n2 ds2 m2)) ∧ Kept 0 0 w w' := by
  obtain ⟨W, hW⟩ : ∃ W, W = (w.alloc (.cells #[.int .i64 n1, v1] 28)).alloc (.cells #[.int .i64 n2, v2] 28) := ⟨_, rfl⟩
  have k0 : Kept 0 0 w W := by rw [hW]; exact ((Kept.refl 0 0 w).alloc _).alloc _
  have c0 : W.cell? ⟨w.heap.size, 0, none⟩ = some (.int .i64 n1) := by rw [hW]; exact old_cell _ (new_cell2 _ _ _ _ _ _ (by simp) rfl)
  have c1 : W.cell? ⟨w.heap.size, 1, none⟩ = some v1 := by rw [hW]; exact old_cell _ (new_cell2 _ _ _ _ _ _ (by simp) rfl)
  have d0 : W.cell? ⟨w.heap.size + 1, 0, none⟩ = some (.int .i64 n2) := by rw [hW]; exact new_cell2 _ _ _ _ _ _ (by simp) rfl
  have d1 : W.cell? ⟨w.heap.size + 1, 1, none⟩ = some v2 := by rw [hW]; exact new_cell2 _ _ _ _ _ _ (by simp) rfl
  have r20 := r2.kept k0 (by omega)
  have ho := ivMatOk_spec n1 W hw1 (r1.kept k0 (by omega))
  have ho2 := fun w1 (k1 : Kept 0 0 W w1) => ivMatOk_spec n2 w1 hw2 (r20.kept k1 (by omega))
  have HO2 := hide ho2
  obtain ⟨a1, e1, rfl, -, -⟩ := r1.form
  obtain ⟨a2, e2, rfl, -, -⟩ := r2.form
  rw [hW] at ho
  clear r1 r2 r20 ho2
  go_enter Tryz.func38, Tryz.ntmps38
  go_wp2_with fail
  rw [← hW] at ho ⊢
  clear hW
  refine ho.mono ?_
  rintro e w1 ⟨rfl, k1⟩
  have hB2 := unhide HO2 w1 k1
  replace c0 := k1.cell0 c0
  replace d0 := k1.cell0 d0
  replace d1 := k1.cell0 d1
  have KW := hide (k0.trans k1)
  clear ho k0 k1 HO2 c1
  cases hk : imokB n1 ds1 m1
  · have HB : Hid (bothI n1 ds1 m1 n2 ds2 m2 = false) := by show _ = _; unfold bothI; rw [hk]; rfl
    clear hk hB2
    go_wp2
    go_ret
    exact ⟨by rw [unhide HB]; rfl, unhide KW⟩
  have HK1 := hide hk
  clear hk
  go_wp2_with fail
  refine hB2.mono ?_
  rintro e w2 ⟨rfl, k2⟩
  replace c0 := k2.cell0 c0
  replace d0 := k2.cell0 d0
  replace KW := hide ((unhide KW).trans k2)
  clear hB2 k2 d1
  cases hk : imokB n2 ds2 m2
  · have HB : Hid (bothI n1 ds1 m1 n2 ds2 m2 = false) := by show _ = _; unfold bothI; rw [hk]; simp
    clear hk
    go_wp2
    go_ret
    exact ⟨by rw [unhide HB]; rfl, unhide KW⟩
  have HB : Hid (bothI n1 ds1 m1 n2 ds2 m2 = decide (n1 = n2)) := by show _ = _; unfold bothI; rw [unhide HK1, hk]; rfl
  clear hk
  go_wp2
  go_ret
  exact ⟨by rw [unhide HB]; rfl, unhide KW⟩

set_option maxHeartbeats 16000000 in
theorem add10_spec {k m lo1 hi1 lo2 hi2 : Nat} {v1 v2 : Value} {ds1 ds2 : List DE} (w : World) (hk4 : k ≤ 4) (hmk : m = k * k) (U1 : ∀ q, q < 2 * m → dOkE (ds1.getD q de0) = true) (U2 : ∀ q, q < 2 * m → dOkE (ds2.getD q de0) = true) (r1 : Ivs lo1 hi1 w v1 ds1 m) (r2 : Ivs lo2 hi2 w v2 ds2 m) :
    Calls Tryz.prog 40 #[.agg #[.int .i64 (k : Int), v1], .agg #[.int .i64 (k : Int), v2]] w fun e w' => ∃ v', e = .returned (.agg #[.int .i64 (k : Int), v']) ∧ IvsO w.heap.size w'.heap.size w' v' ((List.range (2 * m)).map fun q => nE (adV ds1 ds2 q) (-3000)) m ∧ Kept 0 0 w w' := by
  obtain ⟨a, c, rfl, -, -⟩ := r1.form
  obtain ⟨a', c', rfl, -, -⟩ := r2.form
  obtain ⟨W, hW⟩ : ∃ W, W = ((w.alloc (.cells #[.int .i64 (k : Int), .slice a m c] 28)).alloc (.cells #[.int .i64 (k : Int), .slice a' m c'] 28)).alloc (.cells #[.int .i64 0, .slice none 0 0] 28) := ⟨_, rfl⟩
  have k0 : Kept 0 0 w W := by rw [hW]; exact (((Kept.refl 0 0 w).alloc _).alloc _).alloc _
  have c0 : W.cell? ⟨w.heap.size, 0, none⟩ = some (.int .i64 (k : Int)) := by rw [hW]; exact old_cell _ (old_cell _ (new_cell2 _ _ _ _ _ _ (by simp) rfl))
  have c1 : W.cell? ⟨w.heap.size, 1, none⟩ = some (.slice a m c) := by rw [hW]; exact old_cell _ (old_cell _ (new_cell2 _ _ _ _ _ _ (by simp) rfl))
  have b1 : W.cell? ⟨w.heap.size + 1, 1, none⟩ = some (.slice a' m c') := by rw [hW]; exact old_cell _ (new_cell2 _ _ _ _ _ _ (by simp) rfl)
  have q0 : W.cell? ⟨w.heap.size + 2, 0, none⟩ = some (.int .i64 0) := by rw [hW]; exact new_cell2 _ _ _ _ _ _ (by simp) rfl
  have q1 : W.cell? ⟨w.heap.size + 2, 1, none⟩ = some (.slice none 0 0) := by rw [hW]; exact new_cell2 _ _ _ _ _ _ (by simp) rfl
  have f0 : W.frozen? ⟨w.heap.size + 2, 0, none⟩ = false := by rw [hW]; exact new_loose2 _ _ _ _ _ (by simp)
  have f1 : W.frozen? ⟨w.heap.size + 2, 1, none⟩ = false := by rw [hW]; exact new_loose2 _ _ _ _ _ (by simp)
  have sW : W.heap.size = w.heap.size + 3 := by rw [hW]; simp
  obtain ⟨PL, hPL⟩ : ∃ PL, PL = (List.range (2 * m)).map fun q => nE (adV ds1 ds2 q) (-3000) := ⟨_, rfl⟩
  rw [← hPL]
  have h16 : m ≤ 4 * 4 := by rw [hmk]; exact Nat.mul_le_mul hk4 hk4
  have hn10 := new10_spec hk4 W PL
  rw [← hmk] at hn10
  have HPLN : Hid (PL.length = 2 * m) := by show _ = _; rw [hPL]; simp
  have HPL := hide hPL
  have RW := hide r1
  have RW2 := hide r2
  have HU1 := hide U1
  have HU2 := hide U2
  have SW := hide sW
  have K1 := hide k0
  rw [hW] at hn10
  clear r1 r2 hmk U1 U2 hPL sW k0
  go_enter Tryz.func40, Tryz.ntmps40
  go_wp2_with fail
  refine hn10.mono ?_
  rw [← hW]
  rintro e w2 ⟨g, rfl, F0, hg, k2⟩
  clear hn10 hW
  obtain ⟨O, hO⟩ : ∃ O, O = w2.heap.size := ⟨_, rfl⟩
  have o0 : (w2.alloc (.cells #[.int .i64 (k : Int), .slice (some ⟨g, 0, none⟩) m m] 28)).cell? ⟨O, 0, none⟩ = some (.int .i64 (k : Int)) := new_cell2 _ _ _ _ _ _ hO rfl
  have o1 : (w2.alloc (.cells #[.int .i64 (k : Int), .slice (some ⟨g, 0, none⟩) m m] 28)).cell? ⟨O, 1, none⟩ = some (.slice (some ⟨g, 0, none⟩) m m) := new_cell2 _ _ _ _ _ _ hO rfl
  have k3 := (Kept.refl 0 0 w2).alloc (.cells #[.int .i64 (k : Int), .slice (some ⟨g, 0, none⟩) m m] 28)
  have hgO : g < O := by have := F0.lt; omega
  have kk := k2.trans k3
  have c1' := kk.cell0 c1
  have b1' := kk.cell0 b1
  have q0' := kk.cell0 q0
  have q1' := kk.cell0 q1
  have f0' := kk.loose0 (World.block_lt_of_cell? _ _ q0) f0
  have f1' := kk.loose0 (World.block_lt_of_cell? _ _ q1) f1
  have F1 := hide (F0.kept k3)
  have K2 := hide ((unhide K1).trans kk)
  have HGW : Hid (w.heap.size + 3 ≤ g) := by show _ ≤ _; have := unhide SW; omega
  have HGO := hide hgO
  clear F0 k2 k3 kk c0 c1 b1 q0 q1 f0 f1 hg hgO K1
  go_wp2_with fail
  rw [← hO]
  generalize (w2.alloc (.cells #[.int .i64 (k : Int), .slice (some ⟨g, 0, none⟩) m m] 28)) = w3 at *
  clear hO
  go_loopw [6] (fun s6 wr => ∃ j : Nat, s6 = .int .i64 j ∧ j ≤ m ∧ Hid (Fill 0 g (2 * m) PL (2 * j) wr) ∧ Hid (Kept 0 0 w wr) ∧ Hid (Kept g (g + 1) w3 wr)) (fun s6 _ => m - (intOf s6).toNat)
  case atStart => exact ⟨0, rfl, Nat.zero_le _, F1, K2, Kept.refl _ _ _⟩
  case round =>
    clear F1 K2
    obtain ⟨j, rfl, hj, hF, kw, kg⟩ := hrel
    have hwj : IntKind.i64.wrap ((j : Int) + 1) = ((j + 1 : Nat) : Int) := by rw [IntKind.wrap_i64]; omega
    have hgw := unhide HGW
    have hgo := unhide HGO
    have C1 := (unhide kg).cellOut (a := ⟨w.heap.size, 1, none⟩) (by dsimp only; omega) c1'
    by_cases hlt : j < m
    · have kgd := (unhide kg).drew
      have kd := (unhide kw).drew
      have O1 := kgd.cellOut (a := ⟨O, 1, none⟩) (by dsimp only; omega) o1
      have A1 := kgd.cellOut (a := ⟨w.heap.size, 1, none⟩) (by dsimp only; omega) c1'
      have A2 := kgd.cellOut (a := ⟨w.heap.size + 1, 1, none⟩) (by dsimp only; omega) b1'
      obtain ⟨gA, off, l0, l1, rfl, -, -, hgA, b, kb, b', kb', m0, m1, m2, m3, m4, m5, hln0, hln1, rr0, rr1⟩ := (unhide RW).at (i := j) hlt
      obtain ⟨gB, off2, l2, l3, rfl, -, -, hgB, d, kd', d', kd'', n0, n1, n2, n3, n4, n5, hln2, hln3, rr2, rr3⟩ := (unhide RW2).at (i := j) hlt
      have hk0 := unhide HU1 (2 * j) (by omega)
      have hk1 := unhide HU1 (2 * j + 1) (by omega)
      have hk2 := unhide HU2 (2 * j) (by omega)
      have hk3 := unhide HU2 (2 * j + 1) (by omega)
      have HP0 : PL.getD (2 * j) de0 = nE (dv (-3000) (ds1.getD (2 * j) de0) + dv (-3000) (ds2.getD (2 * j) de0)) (-3000) := by rw [unhide HPL, map_at _ _ _ (by omega)]; rfl
      have HP1 : PL.getD (2 * j + 1) de0 = nE (dv (-3000) (ds1.getD (2 * j + 1) de0) + dv (-3000) (ds2.getD (2 * j + 1) de0)) (-3000) := by rw [unhide HPL, map_at _ _ _ (by omega)]; rfl
      obtain ⟨⟨s0, z0, y0⟩, hE0⟩ : ∃ q, q = ds1.getD (2 * j) de0 := ⟨_, rfl⟩
      obtain ⟨⟨s1, z1, y1⟩, hE1⟩ : ∃ q, q = ds1.getD (2 * j + 1) de0 := ⟨_, rfl⟩
      obtain ⟨⟨s2, z2, y2⟩, hE2⟩ : ∃ q, q = ds2.getD (2 * j) de0 := ⟨_, rfl⟩
      obtain ⟨⟨s3, z3, y3⟩, hE3⟩ : ∃ q, q = ds2.getD (2 * j + 1) de0 := ⟨_, rfl⟩
      rw [← hE0] at m0 m2 hln0 rr0 hk0 HP0
      rw [← hE1] at m3 m5 hln1 rr1 hk1 HP1
      rw [← hE2] at n0 n2 hln2 rr2 hk2 HP0
      rw [← hE3] at n3 n5 hln3 rr3 hk3 HP1
      dsimp only at m0 m2 hln0 rr0 m3 m5 hln1 rr1 n0 n2 hln2 rr2 n3 n5 hln3 rr3
      obtain ⟨⟨t0, x0, p0⟩, hR0⟩ : ∃ q, q = nE (dv (-3000) (s0, z0, y0) + dv (-3000) (s2, z2, y2)) (-3000) := ⟨_, rfl⟩
      obtain ⟨⟨t1, x1, p1⟩, hR1⟩ : ∃ q, q = nE (dv (-3000) (s1, z1, y1) + dv (-3000) (s3, z3, y3)) (-3000) := ⟨_, rfl⟩
      rw [← hR0] at HP0
      rw [← hR1] at HP1
      have HAD := hide (add7v_spec s0 s1 s2 s3 y0 y1 y2 y3 wr.drew (rr0.kept kd (by omega)) (rr1.kept kd (by omega)) (rr2.kept kd (by omega)) (rr3.kept kd (by omega)) hk0 hk1 hk2 hk3 hR0 hR1)
      replace m0 := kd.cell0 m0
      replace m1 := kd.cell0 m1
      replace m2 := kd.cell0 m2
      replace m3 := kd.cell0 m3
      replace m4 := kd.cell0 m4
      replace m5 := kd.cell0 m5
      replace n0 := kd.cell0 n0
      replace n1 := kd.cell0 n1
      replace n2 := kd.cell0 n2
      replace n3 := kd.cell0 n3
      replace n4 := kd.cell0 n4
      replace n5 := kd.cell0 n5
      have HF := hide ((unhide hF).kept ((Kept.refl 0 0 wr).drew))
      have E0 := hide HP0
      have E1 := hide HP1
      have KD := hide kd
      have KGD := hide kgd
      clear hln0 hln1 hln2 hln3 rr0 rr1 rr2 rr3 hE0 hE1 hE2 hE3 kd kgd hF kw kg HP0 HP1 hk0 hk1 hk2 hk3 hR0 hR1
      go_wp2_with fail
      refine wp_region_held_drew (S := (fun w' => w'.cell? ⟨O, 1, none⟩ = some (.slice (some ⟨g, 0, none⟩) m m) ∧ w'.cell? ⟨w.heap.size, 1, none⟩ = some (.slice (some ⟨gA, off, none⟩) m c) ∧ w'.cell? ⟨w.heap.size + 1, 1, none⟩ = some (.slice (some ⟨gB, off2, none⟩) m c') ∧ w'.cell? ⟨gA, off + j * 6, none⟩ = some (.bool s0) ∧ w'.cell? ⟨gA, off + j * 6 + 1, none⟩ = some (.slice b l0 kb) ∧ w'.cell? ⟨gA, off + j * 6 + 2, none⟩ = some (.int .i64 y0) ∧ w'.cell? ⟨gA, off + j * 6 + 3, none⟩ = some (.bool s1) ∧ w'.cell? ⟨gA, off + j * 6 + 4, none⟩ = some (.slice b' l1 kb') ∧ w'.cell? ⟨gA, off + j * 6 + 5, none⟩ = some (.int .i64 y1) ∧ w'.cell? ⟨gB, off2 + j * 6, none⟩ = some (.bool s2) ∧ w'.cell? ⟨gB, off2 + j * 6 + 1, none⟩ = some (.slice d l2 kd') ∧ w'.cell? ⟨gB, off2 + j * 6 + 2, none⟩ = some (.int .i64 y2) ∧ w'.cell? ⟨gB, off2 + j * 6 + 3, none⟩ = some (.bool s3) ∧ w'.cell? ⟨gB, off2 + j * 6 + 4, none⟩ = some (.slice d' l3 kd'') ∧ w'.cell? ⟨gB, off2 + j * 6 + 5, none⟩ = some (.int .i64 y3))) (by kernel_rfl) ?_ (fun hHeld => ?_)
      · exact ⟨O1, A1, A2, m0, m1, m2, m3, m4, m5, n0, n1, n2, n3, n4, n5⟩
      generalize wr.drew = wd at *
      refine wpAnyH_take (i := 0) (oi := _) (v := .pointer (some ⟨O, 1, none⟩)) rfl (by kernel_rfl) (by kernel_rfl) (by kernel_rfl) (fun _ _ _ h => h) (Or.inl ⟨by rfl, ?_⟩) hHeld ?_
      · intro wq hSw
        try dsimp only at hSw
        go_simp
      try simp only [Act.put, List.getElem_toArray, List.getElem_cons_succ, List.getElem_cons_zero, List.setIfInBounds_toArray, List.set_cons_zero, List.set_cons_succ]
      refine wpAnyH_take (i := 1) (oi := _) (v := .slice (some ⟨g, 0, none⟩) m m) rfl (by kernel_rfl) (by kernel_rfl) (by kernel_rfl) (fun _ _ _ h => h) (Or.inl ⟨by rfl, ?_⟩) hHeld ?_
      · intro wq hSw
        try dsimp only at hSw
        go_simp
      try simp only [Act.put, List.getElem_toArray, List.getElem_cons_succ, List.getElem_cons_zero, List.setIfInBounds_toArray, List.set_cons_zero, List.set_cons_succ]
      refine wpAnyH_take (i := 2) (oi := _) (v := .int .i64 (j : Int)) rfl (by kernel_rfl) (by kernel_rfl) (by kernel_rfl) (fun _ _ _ h => h) (Or.inl ⟨by rfl, ?_⟩) hHeld ?_
      · intro wq hSw
        try dsimp only at hSw
        go_simp
      try simp only [Act.put, List.getElem_toArray, List.getElem_cons_succ, List.getElem_cons_zero, List.setIfInBounds_toArray, List.set_cons_zero, List.set_cons_succ]
      refine wpAnyH_take (i := 3) (oi := _) (v := .pointer (some ⟨w.heap.size, 1, none⟩)) rfl (by kernel_rfl) (by kernel_rfl) (by kernel_rfl) (fun _ _ _ h => h) (Or.inl ⟨by rfl, ?_⟩) hHeld ?_
      · intro wq hSw
        try dsimp only at hSw
        go_simp
      try simp only [Act.put, List.getElem_toArray, List.getElem_cons_succ, List.getElem_cons_zero, List.setIfInBounds_toArray, List.set_cons_zero, List.set_cons_succ]
      refine wpAnyH_take (i := 4) (oi := _) (v := .slice (some ⟨gA, off, none⟩) m c) rfl (by kernel_rfl) (by kernel_rfl) (by kernel_rfl) (fun _ _ _ h => h) (Or.inl ⟨by rfl, ?_⟩) hHeld ?_
      · intro wq hSw
        try dsimp only at hSw
        go_simp
      try simp only [Act.put, List.getElem_toArray, List.getElem_cons_succ, List.getElem_cons_zero, List.setIfInBounds_toArray, List.set_cons_zero, List.set_cons_succ]
      refine wpAnyH_take (i := 5) (oi := _) (v := .int .i64 (j : Int)) rfl (by kernel_rfl) (by kernel_rfl) (by kernel_rfl) (fun _ _ _ h => h) (Or.inl ⟨by rfl, ?_⟩) hHeld ?_
      · intro wq hSw
        try dsimp only at hSw
        go_simp
      try simp only [Act.put, List.getElem_toArray, List.getElem_cons_succ, List.getElem_cons_zero, List.setIfInBounds_toArray, List.set_cons_zero, List.set_cons_succ]
      refine wpAnyH_take (i := 6) (oi := _) (v := .pointer (some ⟨gA, off + j * 6, none⟩)) rfl (by kernel_rfl) (by kernel_rfl) (by kernel_rfl) (fun _ _ _ h => h) (Or.inl ⟨by rfl, ?_⟩) hHeld ?_
      · intro wq hSw
        try dsimp only at hSw
        go_simp
      try simp only [Act.put, List.getElem_toArray, List.getElem_cons_succ, List.getElem_cons_zero, List.setIfInBounds_toArray, List.set_cons_zero, List.set_cons_succ]
      refine wpAnyH_take (i := 7) (oi := _) (v := .agg #[.bool s0, .slice b l0 kb, .int .i64 y0, .bool s1, .slice b' l1 kb', .int .i64 y1]) rfl (by kernel_rfl) (by kernel_rfl) (by kernel_rfl) (fun _ _ _ h => h) (Or.inl ⟨by rfl, ?_⟩) hHeld ?_
      · intro wq hSw
        try dsimp only at hSw
        go_simp
      try simp only [Act.put, List.getElem_toArray, List.getElem_cons_succ, List.getElem_cons_zero, List.setIfInBounds_toArray, List.set_cons_zero, List.set_cons_succ]
      refine wpAnyH_take (i := 8) (oi := _) (v := .pointer (some ⟨w.heap.size + 1, 1, none⟩)) rfl (by kernel_rfl) (by kernel_rfl) (by kernel_rfl) (fun _ _ _ h => h) (Or.inl ⟨by rfl, ?_⟩) hHeld ?_
      · intro wq hSw
        try dsimp only at hSw
        go_simp
      try simp only [Act.put, List.getElem_toArray, List.getElem_cons_succ, List.getElem_cons_zero, List.setIfInBounds_toArray, List.set_cons_zero, List.set_cons_succ]
      refine wpAnyH_take (i := 9) (oi := _) (v := .slice (some ⟨gB, off2, none⟩) m c') rfl (by kernel_rfl) (by kernel_rfl) (by kernel_rfl) (fun _ _ _ h => h) (Or.inl ⟨by rfl, ?_⟩) hHeld ?_
      · intro wq hSw
        try dsimp only at hSw
        go_simp
      try simp only [Act.put, List.getElem_toArray, List.getElem_cons_succ, List.getElem_cons_zero, List.setIfInBounds_toArray, List.set_cons_zero, List.set_cons_succ]
      refine wpAnyH_take (i := 10) (oi := _) (v := .int .i64 (j : Int)) rfl (by kernel_rfl) (by kernel_rfl) (by kernel_rfl) (fun _ _ _ h => h) (Or.inl ⟨by rfl, ?_⟩) hHeld ?_
      · intro wq hSw
        try dsimp only at hSw
        go_simp
      try simp only [Act.put, List.getElem_toArray, List.getElem_cons_succ, List.getElem_cons_zero, List.setIfInBounds_toArray, List.set_cons_zero, List.set_cons_succ]
      refine wpAnyH_take (i := 11) (oi := _) (v := .pointer (some ⟨gB, off2 + j * 6, none⟩)) rfl (by kernel_rfl) (by kernel_rfl) (by kernel_rfl) (fun _ _ _ h => h) (Or.inl ⟨by rfl, ?_⟩) hHeld ?_
      · intro wq hSw
        try dsimp only at hSw
        go_simp
      try simp only [Act.put, List.getElem_toArray, List.getElem_cons_succ, List.getElem_cons_zero, List.setIfInBounds_toArray, List.set_cons_zero, List.set_cons_succ]
      refine wpAnyH_take (i := 12) (oi := _) (v := .agg #[.bool s2, .slice d l2 kd', .int .i64 y2, .bool s3, .slice d' l3 kd'', .int .i64 y3]) rfl (by kernel_rfl) (by kernel_rfl) (by kernel_rfl) (fun _ _ _ h => h) (Or.inl ⟨by rfl, ?_⟩) hHeld ?_
      · intro wq hSw
        try dsimp only at hSw
        go_simp
      try simp only [Act.put, List.getElem_toArray, List.getElem_cons_succ, List.getElem_cons_zero, List.setIfInBounds_toArray, List.set_cons_zero, List.set_cons_succ]
      refine wpAnyH_ready (rs := [13]) (by kernel_rfl) (by simp) ?_
      refine AllReadyH.cons rfl (fun KK hK => ?_) AllReadyH.nil
      simp only [List.getElem_toArray, List.getElem_cons_succ, List.getElem_cons_zero]
      rw [if_pos (by rfl)]
      refine wps2 89 (.tmp 24) (.tmp 29) _ rfl in_l7addV (.agg #[.bool s0, .slice b l0 kb, .int .i64 y0, .bool s1, .slice b' l1 kb', .int .i64 y1]) (.agg #[.bool s2, .slice d l2 kd', .int .i64 y2, .bool s3, .slice d' l3 kd'', .int .i64 y3]) rfl rfl (unhide HAD) ?_
      rintro e w6 ⟨v5, v6, mid, rfl, r5, r6, hm1, hm2, k6⟩
      refine ⟨_, rfl, ?_⟩
      obtain ⟨a5, c5, hv⟩ := Row.form' r5
      subst hv
      obtain ⟨a6, c6, hv⟩ := Row.form' r6
      subst hv
      have U0 := hide r5
      have U1 := hide r6
      have K6 := hide k6
      have Z4 := hide hm1
      have Z5 := hide hm2
      replace O1 := k6.cell0 O1
      replace A1 := k6.cell0 A1
      replace A2 := k6.cell0 A2
      replace m0 := k6.cell0 m0
      replace m1 := k6.cell0 m1
      replace m2 := k6.cell0 m2
      replace m3 := k6.cell0 m3
      replace m4 := k6.cell0 m4
      replace m5 := k6.cell0 m5
      replace n0 := k6.cell0 n0
      replace n1 := k6.cell0 n1
      replace n2 := k6.cell0 n2
      replace n3 := k6.cell0 n3
      replace n4 := k6.cell0 n4
      replace n5 := k6.cell0 n5
      clear r5 r6 k6 HAD hm1 hm2
      clear hHeld
      refine hK.out _ _ ?_ (fun hHeld => ?_)
      · exact ⟨O1, A1, A2, m0, m1, m2, m3, m4, m5, n0, n1, n2, n3, n4, n5⟩
      clear hK KK
      try simp only [Act.put, List.getElem_toArray, List.getElem_cons_succ, List.getElem_cons_zero, List.setIfInBounds_toArray, List.set_cons_zero, List.set_cons_succ]
      refine wpAnyH_take (i := 14) (oi := _) (v := .pointer (some ⟨g, j * 6, none⟩)) rfl (by kernel_rfl) (by kernel_rfl) (by kernel_rfl) (fun _ _ _ h => h) (Or.inl ⟨by rfl, ?_⟩) hHeld ?_
      · intro wq hSw
        try dsimp only at hSw
        go_simp
      try simp only [Act.put, List.getElem_toArray, List.getElem_cons_succ, List.getElem_cons_zero, List.setIfInBounds_toArray, List.set_cons_zero, List.set_cons_succ]
      obtain ⟨u0, hx0⟩ := (unhide HF).cell (j * 6) (by omega)
      replace hx0 := (unhide K6).cell0 hx0
      have fg0 := (unhide K6).loose0 (a := ⟨g, j * 6, none⟩) (unhide HF).lt ((unhide HF).loose (j * 6) (by omega))
      obtain ⟨u1, hx1⟩ := (unhide HF).cell (j * 6 + 1) (by omega)
      replace hx1 := (unhide K6).cell0 hx1
      have fg1 := (unhide K6).loose0 (a := ⟨g, j * 6 + 1, none⟩) (unhide HF).lt ((unhide HF).loose (j * 6 + 1) (by omega))
      obtain ⟨u2, hx2⟩ := (unhide HF).cell (j * 6 + 2) (by omega)
      replace hx2 := (unhide K6).cell0 hx2
      have fg2 := (unhide K6).loose0 (a := ⟨g, j * 6 + 2, none⟩) (unhide HF).lt ((unhide HF).loose (j * 6 + 2) (by omega))
      obtain ⟨u3, hx3⟩ := (unhide HF).cell (j * 6 + 3) (by omega)
      replace hx3 := (unhide K6).cell0 hx3
      have fg3 := (unhide K6).loose0 (a := ⟨g, j * 6 + 3, none⟩) (unhide HF).lt ((unhide HF).loose (j * 6 + 3) (by omega))
      obtain ⟨u4, hx4⟩ := (unhide HF).cell (j * 6 + 4) (by omega)
      replace hx4 := (unhide K6).cell0 hx4
      have fg4 := (unhide K6).loose0 (a := ⟨g, j * 6 + 4, none⟩) (unhide HF).lt ((unhide HF).loose (j * 6 + 4) (by omega))
      obtain ⟨u5, hx5⟩ := (unhide HF).cell (j * 6 + 5) (by omega)
      replace hx5 := (unhide K6).cell0 hx5
      have fg5 := (unhide K6).loose0 (a := ⟨g, j * 6 + 5, none⟩) (unhide HF).lt ((unhide HF).loose (j * 6 + 5) (by omega))
      have F5 := hide ((unhide HF).two hlt (unhide K6) (unhide U0) (unhide U1) (unhide Z4) (unhide Z5) (unhide E0) (unhide E1))
      have KW5 := hide ((unhide KD).trans (unhide K6))
      have KG5 := hide ((unhide KGD).trans (unhide K6).any)
      clear HF U0 U1 Z4 Z5 E0 E1 K6 KD KGD
      refine wpAnyH_ready (rs := [15]) (by kernel_rfl) (by simp) ?_
      refine AllReadyH.cons rfl (fun KK hK => ?_) AllReadyH.nil
      simp only [List.getElem_toArray, List.getElem_cons_succ, List.getElem_cons_zero]
      rw [if_pos (by rfl)]
      go_simp
      have ks : Kept g (g + 1) w6 ((((((w6.setCell ⟨g, j * 6, none⟩ (.bool t0)).setCell ⟨g, j * 6 + 1, none⟩ (.slice a5 x0.length c5)).setCell ⟨g, j * 6 + 2, none⟩ (.int .i64 p0)).setCell ⟨g, j * 6 + 3, none⟩ (.bool t1)).setCell ⟨g, j * 6 + 4, none⟩ (.slice a6 x1.length c6)).setCell ⟨g, j * 6 + 5, none⟩ (.int .i64 p1)) := (((((((Kept.refl g (g + 1) w6).setCell (p := ⟨g, j * 6, none⟩) (Nat.le_refl _) (Nat.lt_succ_self _) (.bool t0)).setCell (p := ⟨g, j * 6 + 1, none⟩) (Nat.le_refl _) (Nat.lt_succ_self _) (.slice a5 x0.length c5)).setCell (p := ⟨g, j * 6 + 2, none⟩) (Nat.le_refl _) (Nat.lt_succ_self _) (.int .i64 p0)).setCell (p := ⟨g, j * 6 + 3, none⟩) (Nat.le_refl _) (Nat.lt_succ_self _) (.bool t1)).setCell (p := ⟨g, j * 6 + 4, none⟩) (Nat.le_refl _) (Nat.lt_succ_self _) (.slice a6 x1.length c6)).setCell (p := ⟨g, j * 6 + 5, none⟩) (Nat.le_refl _) (Nat.lt_succ_self _) (.int .i64 p1))
      replace O1 := ks.cellOut (by dsimp only; omega) O1
      replace A1 := ks.cellOut (by dsimp only; omega) A1
      replace A2 := ks.cellOut (by dsimp only; omega) A2
      replace m0 := ks.cellOut (by dsimp only; omega) m0
      replace m1 := ks.cellOut (by dsimp only; omega) m1
      replace m2 := ks.cellOut (by dsimp only; omega) m2
      replace m3 := ks.cellOut (by dsimp only; omega) m3
      replace m4 := ks.cellOut (by dsimp only; omega) m4
      replace m5 := ks.cellOut (by dsimp only; omega) m5
      replace n0 := ks.cellOut (by dsimp only; omega) n0
      replace n1 := ks.cellOut (by dsimp only; omega) n1
      replace n2 := ks.cellOut (by dsimp only; omega) n2
      replace n3 := ks.cellOut (by dsimp only; omega) n3
      replace n4 := ks.cellOut (by dsimp only; omega) n4
      replace n5 := ks.cellOut (by dsimp only; omega) n5
      have K7 := hide ((unhide KW5).wide ks (by omega))
      have KG7 := hide ((unhide KG5).trans ks)
      clear ks KW5 KG5
      clear hHeld
      refine hK.out _ _ ?_ (fun hHeld => ?_)
      · exact ⟨O1, A1, A2, m0, m1, m2, m3, m4, m5, n0, n1, n2, n3, n4, n5⟩
      clear hK KK
      try simp only [Act.put, List.getElem_toArray, List.getElem_cons_succ, List.getElem_cons_zero, List.setIfInBounds_toArray, List.set_cons_zero, List.set_cons_succ]
      refine wpAnyH_done (by kernel_rfl) ?_ _
      clear hHeld O1 A1 A2 m0 m1 m2 m3 m4 m5 n0 n1 n2 n3 n4 n5 hx0 hx1 hx2 hx3 hx4 hx5 fg0 fg1 fg2 fg3 fg4 fg5 hgw hgo
      go_wp2
      go_roundw
      case rel => exact ⟨j + 1, by simp, hlt, F5, K7, KG7⟩
      case measure => simp [intOf]; omega
    · have hjn : j = m := by omega
      subst hjn
      have O0 := (unhide kg).cellOut (a := ⟨O, 0, none⟩) (by dsimp only; omega) o0
      have O1 := (unhide kg).cellOut (a := ⟨O, 1, none⟩) (by dsimp only; omega) o1
      have Q0 := (unhide kg).cellOut (a := ⟨w.heap.size + 2, 0, none⟩) (by dsimp only; omega) q0'
      have Q1 := (unhide kg).cellOut (a := ⟨w.heap.size + 2, 1, none⟩) (by dsimp only; omega) q1'
      have Qf0 := (unhide kg).looseOut (a := ⟨w.heap.size + 2, 0, none⟩) (by dsimp only; omega) (World.block_lt_of_cell? _ _ q0') f0'
      have Qf1 := (unhide kg).looseOut (a := ⟨w.heap.size + 2, 1, none⟩) (by dsimp only; omega) (World.block_lt_of_cell? _ _ q1') f1'
      have DD := ivsO_done (unhide hF) (unhide HPLN) (by unfold maxLen; omega)
      have ks : Kept (w.heap.size + 2) (w.heap.size + 3) wr ((wr.setCell ⟨w.heap.size + 2, 0, none⟩ (.int .i64 (k : Int))).setCell ⟨w.heap.size + 2, 1, none⟩ (.slice (some ⟨g, 0, none⟩) j j)) := ((Kept.refl _ _ _).setCell (p := ⟨w.heap.size + 2, 0, none⟩) (Nat.le_refl _) (Nat.lt_succ_self _) _).setCell (p := ⟨w.heap.size + 2, 1, none⟩) (Nat.le_refl _) (Nat.lt_succ_self _) _
      have hsz : ((wr.setCell ⟨w.heap.size + 2, 0, none⟩ (.int .i64 (k : Int))).setCell ⟨w.heap.size + 2, 1, none⟩ (.slice (some ⟨g, 0, none⟩) j j)).heap.size = wr.heap.size := by rw [size_set, size_set]
      have R7 := hide ((DD.kept ks (by omega)).wider (lo' := w.heap.size) (hi' := ((wr.setCell ⟨w.heap.size + 2, 0, none⟩ (.int .i64 (k : Int))).setCell ⟨w.heap.size + 2, 1, none⟩ (.slice (some ⟨g, 0, none⟩) j j)).heap.size) (by omega) (by omega))
      have K7 := hide ((unhide kw).wide ks (by omega))
      clear hF kg kw DD ks hsz hgo hgw
      go_wp2
      exact bodyPost_ret (v := .agg #[.int .i64 (k : Int), .slice (some ⟨g, 0, none⟩) j j]) (by simp [results, Tryz.results40, go_sem, Q0, Q1]) rfl ⟨.slice (some ⟨g, 0, none⟩) j j, rfl, unhide R7, unhide K7⟩

set_option maxHeartbeats 8000000 in
theorem ivMatAdd_spec {lo1 hi1 lo2 hi2 m1 m2 : Nat} {v1 v2 : Value} {ds1 ds2 : List DE} (n1 n2 : Int) (w : World) (hw1 : WfD ds1) (hw2 : WfD ds2) (r1 : Ivs lo1 hi1 w v1 ds1 m1) (r2 : Ivs lo2 hi2 w v2 ds2 m2) :
    Calls Tryz.prog 11 #[.agg #[.int .i64 n1, v1], .agg #[.int .i64 n2, v2]] w fun e w' => ∃ v', e = .returned (.tuple #[.agg #[.int .i64 (hwN (bothI n1 ds1 m1 n2 ds2 m2) (adV ds1 ds2) (-3000) n1), v'], .bool (hwB (bothI n1 ds1 m1 n2 ds2 m2) (adV ds1 ds2) (-3000) n1)]) ∧ IvsO w.heap.size w'.heap.size w' v' (hwL (bothI n1 ds1 m1 n2 ds2 m2) (adV ds1 ds2) (-3000) n1) (hwC (bothI n1 ds1 m1 n2 ds2 m2) (adV ds1 ds2) (-3000) n1) ∧ Kept 0 0 w w' := by
  obtain ⟨W, hW⟩ : ∃ W, W = ((w.alloc (.cells #[.int .i64 n1, v1] 28)).alloc (.cells #[.int .i64 n2, v2] 28)).alloc (.cells #[.int .i64 0, .slice none 0 0] 28) := ⟨_, rfl⟩
  have k0 : Kept 0 0 w W := by rw [hW]; exact (((Kept.refl 0 0 w).alloc _).alloc _).alloc _
  have c0 : W.cell? ⟨w.heap.size, 0, none⟩ = some (.int .i64 n1) := by rw [hW]; exact old_cell _ (old_cell _ (new_cell2 _ _ _ _ _ _ (by simp) rfl))
  have c1 : W.cell? ⟨w.heap.size, 1, none⟩ = some v1 := by rw [hW]; exact old_cell _ (old_cell _ (new_cell2 _ _ _ _ _ _ (by simp) rfl))
  have d0 : W.cell? ⟨w.heap.size + 1, 0, none⟩ = some (.int .i64 n2) := by rw [hW]; exact old_cell _ (new_cell2 _ _ _ _ _ _ (by simp) rfl)
  have d1 : W.cell? ⟨w.heap.size + 1, 1, none⟩ = some v2 := by rw [hW]; exact old_cell _ (new_cell2 _ _ _ _ _ _ (by simp) rfl)
  have q0 : W.cell? ⟨w.heap.size + 2, 0, none⟩ = some (.int .i64 0) := by rw [hW]; exact new_cell2 _ _ _ _ _ _ (by simp) rfl
  have q1 : W.cell? ⟨w.heap.size + 2, 1, none⟩ = some (.slice none 0 0) := by rw [hW]; exact new_cell2 _ _ _ _ _ _ (by simp) rfl
  have f0 : W.frozen? ⟨w.heap.size + 2, 0, none⟩ = false := by rw [hW]; exact new_loose2 _ _ _ _ _ (by simp)
  have f1 : W.frozen? ⟨w.heap.size + 2, 1, none⟩ = false := by rw [hW]; exact new_loose2 _ _ _ _ _ (by simp)
  have sW : W.heap.size = w.heap.size + 3 := by rw [hW]; simp
  have R10 := hide (r1.kept k0 (by omega))
  have R20 := hide (r2.kept k0 (by omega))
  have ho := both10_spec n1 n2 W hw1 hw2 (unhide R10) (unhide R20)
  obtain ⟨a1, e1, rfl, -, -⟩ := r1.form
  obtain ⟨a2, e2, rfl, -, -⟩ := r2.form
  rw [hW] at ho
  clear r1 r2
  go_enter Tryz.func11, Tryz.ntmps11
  go_wp2_with fail
  rw [← hW] at ho ⊢
  clear hW
  refine ho.mono ?_
  rintro e w1 ⟨rfl, k1⟩
  replace f0 := k1.loose0 (World.block_lt_of_cell? _ _ q0) f0
  replace f1 := k1.loose0 (World.block_lt_of_cell? _ _ q1) f1
  replace c0 := k1.cell0 c0
  replace c1 := k1.cell0 c1
  replace d0 := k1.cell0 d0
  replace d1 := k1.cell0 d1
  replace q0 := k1.cell0 q0
  replace q1 := k1.cell0 q1
  have K1 := hide (k0.trans k1)
  have z1 := k1.size
  have KB := hide k1
  clear ho k0 k1
  cases hb : bothI n1 ds1 m1 n2 ds2 m2
  · have K7 := hide (((unhide K1).setNew (p := ⟨w.heap.size + 2, 0, none⟩) (by dsimp only; omega) (.int .i64 0)).setNew (p := ⟨w.heap.size + 2, 1, none⟩) (by dsimp only; omega) (.slice none 0 0))
    have HB := hide hb
    clear K1 hb
    go_wp2
    exact bodyPost_ret (v := .tuple #[.agg #[.int .i64 0, .slice none 0 0], .bool false]) (by simp [results, Tryz.results11, go_sem, q0, q1]) rfl ⟨.slice none 0 0, by rw [unhide HB]; rfl, by rw [unhide HB]; exact IvsO.nil _ _ _, unhide K7⟩
  obtain ⟨g1, g4⟩ := bothI_n hb
  obtain ⟨k, rfl⟩ := Int.eq_ofNat_of_zero_le (show 0 ≤ n1 by omega)
  have hb2 := hb
  unfold bothI at hb2
  simp only [Bool.and_eq_true, decide_eq_true_eq] at hb2
  obtain ⟨p1, p2, p3⟩ := hb2
  subst p3
  obtain ⟨-, -, u3, U1⟩ := imok_parts p1
  obtain ⟨-, -, u5, U2⟩ := imok_parts p2
  have l1 : m1 = k * k := by rw [← Int.natCast_mul] at u3; omega
  have l2 : m2 = m1 := by rw [← Int.natCast_mul] at u5; omega
  subst l2
  have HBO := hide hb
  have hop := add10_spec w1 (show k ≤ 4 by omega) l1 U1 U2 ((unhide R10).kept (unhide KB) (by omega)) ((unhide R20).kept (unhide KB) (by omega))
  obtain ⟨PL, hPL⟩ : ∃ PL, PL = (List.range (2 * m2)).map fun q => nE (adV ds1 ds2 q) (-3000) := ⟨_, rfl⟩
  obtain ⟨w1', w2'⟩ := hw_wf (n := 2 * m2) (V := adV ds1 ds2) (L := -3000) (by decide) (by decide) (fun q hq => adV_lt (U1 q hq) (U2 q hq))
  obtain ⟨t1, t2, t3, t4⟩ := hw_fit (k := k) (V := adV ds1 ds2) (L := -3000) (by omega) (by omega) (by decide) (fun p hp => ad_mono p1 p2 (by omega))
  rw [← l1, ← hPL] at t1 t2 t3 t4
  rw [← hPL] at hop w1' w2'
  obtain ⟨X1, hX1⟩ : ∃ x, x = hwN true (adV ds1 ds2) (-3000) (k : Int) := ⟨_, rfl⟩
  obtain ⟨X2, hX2⟩ : ∃ x, x = hwB true (adV ds1 ds2) (-3000) (k : Int) := ⟨_, rfl⟩
  obtain ⟨X3, hX3⟩ : ∃ x, x = hwL true (adV ds1 ds2) (-3000) (k : Int) := ⟨_, rfl⟩
  obtain ⟨X4, hX4⟩ : ∃ x, x = hwC true (adV ds1 ds2) (-3000) (k : Int) := ⟨_, rfl⟩
  rw [← hX2] at t1
  rw [← hX1] at t2
  rw [← hX3] at t3
  rw [← hX4] at t4
  have HX1 := hide hX1
  have HX2 := hide hX2
  have HX3 := hide hX3
  have HX4 := hide hX4
  have HT := hide (And.intro t1 (And.intro t2 (And.intro t3 t4)))
  have HWF := hide w1'
  have HWN := hide w2'
  clear g1 g4 hPL hX1 hX2 hX3 hX4 t1 t2 t3 t4 p1 p2 u3 u5 U1 U2 l1 KB R10 R20 hw1 hw2 hb w1' w2'
  go_wp2_with fail
  refine hop.mono ?_
  rintro e w3 ⟨v3, rfl, r3, k3⟩
  have hft := fits10_spec (k : Int) w3 (unhide HWF) (unhide HWN) r3.read
  rw [(unhide HT).1, (unhide HT).2.1, (unhide HT).2.2.1, (unhide HT).2.2.2] at hft
  obtain ⟨a3, d3, hv3⟩ := r3.form'
  subst hv3
  replace f0 := k3.loose0 (World.block_lt_of_cell? _ _ q0) f0
  replace f1 := k3.loose0 (World.block_lt_of_cell? _ _ q1) f1
  replace q0 := k3.cell0 q0
  replace q1 := k3.cell0 q1
  have K3 := hide ((unhide K1).trans k3)
  have z3 := k3.size
  clear hop r3 k3 K1 c0 c1 d0 d1
  go_wp2_with fail
  refine hft.mono ?_
  rintro e w5 ⟨v5, rfl, r5, k5⟩
  obtain ⟨a5, d5, hv5⟩ := r5.form'
  subst hv5
  replace f0 := k5.loose0 (World.block_lt_of_cell? _ _ q0) f0
  replace f1 := k5.loose0 (World.block_lt_of_cell? _ _ q1) f1
  replace q0 := k5.cell0 q0
  replace q1 := k5.cell0 q1
  have z5 := k5.size
  have K7 := hide ((((unhide K3).trans k5).setNew (p := ⟨w.heap.size + 2, 0, none⟩) (by dsimp only; omega) (.int .i64 X1)).setNew (p := ⟨w.heap.size + 2, 1, none⟩) (by dsimp only; omega) (.slice a5 X4 d5))
  have ks : Kept (w.heap.size + 2) (w.heap.size + 3) w5 ((w5.setCell ⟨w.heap.size + 2, 0, none⟩ (.int .i64 X1)).setCell ⟨w.heap.size + 2, 1, none⟩ (.slice a5 X4 d5)) :=
    ((Kept.refl _ _ _).setCell (p := ⟨w.heap.size + 2, 0, none⟩) (Nat.le_refl _) (Nat.lt_succ_self _) _).setCell (p := ⟨w.heap.size + 2, 1, none⟩) (Nat.le_refl _) (Nat.lt_succ_self _) _
  have hsz : ((w5.setCell ⟨w.heap.size + 2, 0, none⟩ (.int .i64 X1)).setCell ⟨w.heap.size + 2, 1, none⟩ (.slice a5 X4 d5)).heap.size = w5.heap.size := by rw [size_set, size_set]
  have R7 := hide ((r5.kept ks (by omega)).wider (lo' := w.heap.size) (hi' := ((w5.setCell ⟨w.heap.size + 2, 0, none⟩ (.int .i64 X1)).setCell ⟨w.heap.size + 2, 1, none⟩ (.slice a5 X4 d5)).heap.size) (by omega) (by omega))
  clear hft r5 k5 ks hsz K3
  go_wp2
  exact bodyPost_ret (v := .tuple #[.agg #[.int .i64 X1, .slice a5 X4 d5], .bool X2]) (by simp [results, Tryz.results11, go_sem, q0, q1]) rfl ⟨.slice a5 X4 d5, by rw [unhide HBO, unhide HX1, unhide HX2], by rw [unhide HBO, ← unhide HX3, ← unhide HX4]; exact unhide R7, unhide K7⟩

end Go.Proofs.YthahoabkehcgbaaGreatDoor

