/-
  FlCmp, the model's: whole.
-/
import Derived.Test.YtdlpkppkmfjdiaaFl10
import Derived.Deep.RegionHeld3
import Derived.Deep.DeepCutAuto
namespace Go.Proofs.Ytdlpkppkmfjdiaa
open Go.RowKit
set_option linter.unusedVariables false
set_option maxRecDepth 8000
set_option linter.unusedSimpArgs false

set_option maxHeartbeats 1000000 in
theorem flcmp_spec_no1 (k1 : Int) (n1 : Bool) (m1 e1 k2 : Int) (n2 : Bool) (m2 e2 : Int) (h1 : flok k1 n1 m1 e1 = false) (w : World) :
    Calls Try.prog 47 #[flv k1 n1 m1 e1, flv k2 n2 m2 e2] w fun r w' => r = .returned (.tuple #[.int .i64 0, .bool false]) ∧ Kept 0 0 w w' := by
  go_enter Try.func47, Try.ntmps47
  go_wp2_with fail
  refine (flok_spec_eq h1 _).mono ?_
  rintro r w1 ⟨rfl, rfl⟩
  go_wp2_with fail
  go_ret2
  exact ⟨rfl, by repeat first | exact Kept.refl 0 0 _ | apply Kept.alloc⟩

set_option maxHeartbeats 1000000 in
theorem flcmp_spec_no2 (k1 : Int) (n1 : Bool) (m1 e1 k2 : Int) (n2 : Bool) (m2 e2 : Int) (h1 : flok k1 n1 m1 e1 = true) (h2 : flok k2 n2 m2 e2 = false) (w : World) :
    Calls Try.prog 47 #[flv k1 n1 m1 e1, flv k2 n2 m2 e2] w fun r w' => r = .returned (.tuple #[.int .i64 0, .bool false]) ∧ Kept 0 0 w w' := by
  go_enter Try.func47, Try.ntmps47
  go_wp2_with fail
  refine (flok_spec_eq h1 _).mono ?_
  rintro r w1 ⟨rfl, rfl⟩
  go_wp2_with fail
  refine (flok_spec_eq h2 _).mono ?_
  rintro r w1 ⟨rfl, rfl⟩
  go_wp2_with fail
  go_ret2
  exact ⟨rfl, by repeat first | exact Kept.refl 0 0 _ | apply Kept.alloc⟩

set_option maxHeartbeats 1000000 in
theorem flcmp_spec_nan1 (k2 : Int) (n2 : Bool) (m2 e2 : Int) (h1 : flok 3 false 0 0 = true) (h2 : flok k2 n2 m2 e2 = true) (w : World) :
    Calls Try.prog 47 #[flv 3 false 0 0, flv k2 n2 m2 e2] w fun r w' => r = .returned (.tuple #[.int .i64 0, .bool false]) ∧ Kept 0 0 w w' := by
  go_enter Try.func47, Try.ntmps47
  go_wp2_with fail
  refine (flok_spec_eq h1 _).mono ?_
  rintro r w1 ⟨rfl, rfl⟩
  go_wp2_with fail
  refine (flok_spec_eq h2 _).mono ?_
  rintro r w1 ⟨rfl, rfl⟩
  go_wp2_with fail
  go_ret2
  exact ⟨rfl, by repeat first | exact Kept.refl 0 0 _ | apply Kept.alloc⟩

set_option maxHeartbeats 1000000 in
theorem flcmp_spec_nan2 (k1 : Int) (n1 : Bool) (m1 e1 : Int) (h1 : flok k1 n1 m1 e1 = true) (h2 : flok 3 false 0 0 = true) (h3 : (k1 == 3) = false) (w : World) :
    Calls Try.prog 47 #[flv k1 n1 m1 e1, flv 3 false 0 0] w fun r w' => r = .returned (.tuple #[.int .i64 0, .bool false]) ∧ Kept 0 0 w w' := by
  go_enter Try.func47, Try.ntmps47
  go_wp2_with fail
  refine (flok_spec_eq h1 _).mono ?_
  rintro r w1 ⟨rfl, rfl⟩
  go_wp2_with fail
  refine (flok_spec_eq h2 _).mono ?_
  rintro r w1 ⟨rfl, rfl⟩
  go_wp2_with fail
  go_ret2
  exact ⟨rfl, by repeat first | exact Kept.refl 0 0 _ | apply Kept.alloc⟩

set_option maxHeartbeats 4000000 in
theorem flcmp_spec_inf (k1 : Int) (n1 : Bool) (m1 e1 k2 : Int) (n2 : Bool) (m2 e2 : Int) (h1 : flok k1 n1 m1 e1 = true) (h2 : flok k2 n2 m2 e2 = true) (h3 : k1 ≠ 3) (h4 : k2 ≠ 3) (x y : Int) (hx : rank k1 n1 = x) (hy : rank k2 n2 = y) (hxy : x ≠ y ∨ x = 2 ∨ x = -2) (w : World) :
    Calls Try.prog 47 #[flv k1 n1 m1 e1, flv k2 n2 m2 e2] w fun r w' => r = .returned (.tuple #[.int .i64 (cmpI x y), .bool true]) ∧ Kept 0 0 w w' := by
  have q3 : (k1 == 3) = false := by simpa using h3
  have q4 : (k2 == 3) = false := by simpa using h4
  have C1 := fun w => rank_any h1 h3 w
  have D1 := fun w => dy5_spec h1 h3 w
  have C2 := fun w => rank_any h2 h4 w
  have D2 := fun w => dy5_spec h2 h4 w
  have HH1 := hide h1
  have HH2 := hide h2
  rw [hx] at C1
  rw [hy] at C2
  clear h3 h4 h1 h2 hx hy
  replace C1 := hide C1
  replace C2 := hide C2
  replace D1 := hide D1
  replace D2 := hide D2
  have k0 : Kept 0 0 w ((w.alloc (.cells #[.int .i64 k1, .bool n1, .int .i64 m1, .int .i64 e1] 67)).alloc (.cells #[.int .i64 k2, .bool n2, .int .i64 m2, .int .i64 e2] 67)) := (((Kept.refl 0 0 w).alloc (.cells #[.int .i64 k1, .bool n1, .int .i64 m1, .int .i64 e1] 67)).alloc (.cells #[.int .i64 k2, .bool n2, .int .i64 m2, .int .i64 e2] 67))
  have p0 : ((w.alloc (.cells #[.int .i64 k1, .bool n1, .int .i64 m1, .int .i64 e1] 67)).alloc (.cells #[.int .i64 k2, .bool n2, .int .i64 m2, .int .i64 e2] 67)).cell? ⟨w.heap.size, 0, none⟩ = some (.int .i64 k1) := old_cell _ (new_cell2 _ _ _ _ _ _ (by simp) rfl)
  have p1 : ((w.alloc (.cells #[.int .i64 k1, .bool n1, .int .i64 m1, .int .i64 e1] 67)).alloc (.cells #[.int .i64 k2, .bool n2, .int .i64 m2, .int .i64 e2] 67)).cell? ⟨w.heap.size, 1, none⟩ = some (.bool n1) := old_cell _ (new_cell2 _ _ _ _ _ _ (by simp) rfl)
  have p2 : ((w.alloc (.cells #[.int .i64 k1, .bool n1, .int .i64 m1, .int .i64 e1] 67)).alloc (.cells #[.int .i64 k2, .bool n2, .int .i64 m2, .int .i64 e2] 67)).cell? ⟨w.heap.size, 2, none⟩ = some (.int .i64 m1) := old_cell _ (new_cell2 _ _ _ _ _ _ (by simp) rfl)
  have p3 : ((w.alloc (.cells #[.int .i64 k1, .bool n1, .int .i64 m1, .int .i64 e1] 67)).alloc (.cells #[.int .i64 k2, .bool n2, .int .i64 m2, .int .i64 e2] 67)).cell? ⟨w.heap.size, 3, none⟩ = some (.int .i64 e1) := old_cell _ (new_cell2 _ _ _ _ _ _ (by simp) rfl)
  have t0 : ((w.alloc (.cells #[.int .i64 k1, .bool n1, .int .i64 m1, .int .i64 e1] 67)).alloc (.cells #[.int .i64 k2, .bool n2, .int .i64 m2, .int .i64 e2] 67)).cell? ⟨w.heap.size + 1, 0, none⟩ = some (.int .i64 k2) := new_cell2 _ _ _ _ _ _ (by simp) rfl
  have t1 : ((w.alloc (.cells #[.int .i64 k1, .bool n1, .int .i64 m1, .int .i64 e1] 67)).alloc (.cells #[.int .i64 k2, .bool n2, .int .i64 m2, .int .i64 e2] 67)).cell? ⟨w.heap.size + 1, 1, none⟩ = some (.bool n2) := new_cell2 _ _ _ _ _ _ (by simp) rfl
  have t2 : ((w.alloc (.cells #[.int .i64 k1, .bool n1, .int .i64 m1, .int .i64 e1] 67)).alloc (.cells #[.int .i64 k2, .bool n2, .int .i64 m2, .int .i64 e2] 67)).cell? ⟨w.heap.size + 1, 2, none⟩ = some (.int .i64 m2) := new_cell2 _ _ _ _ _ _ (by simp) rfl
  have t3 : ((w.alloc (.cells #[.int .i64 k1, .bool n1, .int .i64 m1, .int .i64 e1] 67)).alloc (.cells #[.int .i64 k2, .bool n2, .int .i64 m2, .int .i64 e2] 67)).cell? ⟨w.heap.size + 1, 3, none⟩ = some (.int .i64 e2) := new_cell2 _ _ _ _ _ _ (by simp) rfl
  have s0 : ((w.alloc (.cells #[.int .i64 k1, .bool n1, .int .i64 m1, .int .i64 e1] 67)).alloc (.cells #[.int .i64 k2, .bool n2, .int .i64 m2, .int .i64 e2] 67)).heap.size = w.heap.size + 2 := by simp
  have K := hide (k0)
  clear k0
  have S0 := hide s0
  clear s0
  go_enter Try.func47, Try.ntmps47
  go_wp2_with fail
  generalize ((w.alloc (.cells #[.int .i64 k1, .bool n1, .int .i64 m1, .int .i64 e1] 67)).alloc (.cells #[.int .i64 k2, .bool n2, .int .i64 m2, .int .i64 e2] 67)) = W at *
  refine (flok_spec_k (unhide HH1) _).mono ?_
  rintro e w1 ⟨rfl, k1⟩
  replace p0 := k1.cell0 p0
  replace p1 := k1.cell0 p1
  replace p2 := k1.cell0 p2
  replace p3 := k1.cell0 p3
  replace t0 := k1.cell0 t0
  replace t1 := k1.cell0 t1
  replace t2 := k1.cell0 t2
  replace t3 := k1.cell0 t3
  replace K := hide ((unhide K).trans k1)
  have z2 := k1.size
  clear k1
  go_wp2_with fail
  refine (flok_spec_k (unhide HH2) _).mono ?_
  rintro e w3 ⟨rfl, k3⟩
  replace p0 := k3.cell0 p0
  replace p1 := k3.cell0 p1
  replace p2 := k3.cell0 p2
  replace p3 := k3.cell0 p3
  replace t0 := k3.cell0 t0
  replace t1 := k3.cell0 t1
  replace t2 := k3.cell0 t2
  replace t3 := k3.cell0 t3
  replace K := hide ((unhide K).trans k3)
  have z4 := k3.size
  clear k3
  go_upto_region 3 with fail
  have kd := (Kept.refl 0 0 w3).drew
  replace p0 := kd.cell0 p0
  replace p1 := kd.cell0 p1
  replace p2 := kd.cell0 p2
  replace p3 := kd.cell0 p3
  replace t0 := kd.cell0 t0
  replace t1 := kd.cell0 t1
  replace t2 := kd.cell0 t2
  replace t3 := kd.cell0 t3
  replace K := hide ((unhide K).trans kd)
  have z5 := kd.size
  clear kd
  refine wp_region_held_drew (S := (fun w' => w'.cell? ⟨w.heap.size, 0, none⟩ = some (.int .i64 k1) ∧ w'.cell? ⟨w.heap.size, 1, none⟩ = some (.bool n1) ∧ w'.cell? ⟨w.heap.size, 2, none⟩ = some (.int .i64 m1) ∧ w'.cell? ⟨w.heap.size, 3, none⟩ = some (.int .i64 e1) ∧ w'.cell? ⟨w.heap.size + 1, 0, none⟩ = some (.int .i64 k2) ∧ w'.cell? ⟨w.heap.size + 1, 1, none⟩ = some (.bool n2) ∧ w'.cell? ⟨w.heap.size + 1, 2, none⟩ = some (.int .i64 m2) ∧ w'.cell? ⟨w.heap.size + 1, 3, none⟩ = some (.int .i64 e2))) (by kernel_rfl) ?_ (fun hHeld => ?_)
  · exact ⟨p0, p1, p2, p3, t0, t1, t2, t3⟩
  refine wpAnyH_take (i := 0) (oi := _) (v := .agg #[.int .i64 k1, .bool n1, .int .i64 m1, .int .i64 e1]) rfl (by kernel_rfl) (by kernel_rfl) (by kernel_rfl) (fun _ _ _ h => h) (Or.inl ⟨by rfl, ?_⟩) hHeld ?_
  · intro wq hSw
    try dsimp only at hSw
    go_simp
  try simp only [Act.put, List.getElem_toArray, List.getElem_cons_succ, List.getElem_cons_zero, List.setIfInBounds_toArray, List.set_cons_zero, List.set_cons_succ]
  refine wpAnyH_take (i := 2) (oi := _) (v := .agg #[.int .i64 k2, .bool n2, .int .i64 m2, .int .i64 e2]) rfl (by kernel_rfl) (by kernel_rfl) (by kernel_rfl) (fun _ _ _ h => h) (Or.inl ⟨by rfl, ?_⟩) hHeld ?_
  · intro wq hSw
    try dsimp only at hSw
    go_simp
  try simp only [Act.put, List.getElem_toArray, List.getElem_cons_succ, List.getElem_cons_zero, List.setIfInBounds_toArray, List.set_cons_zero, List.set_cons_succ]
  refine wpAnyH_ready (rs := [1]) (by kernel_rfl) (by simp) ?_
  refine AllReadyH.cons rfl (fun KK hK => ?_) AllReadyH.nil
  simp only [List.getElem_toArray, List.getElem_cons_succ, List.getElem_cons_zero]
  rw [if_pos (by rfl)]
  refine wps1 84 (.tmp 26) _ rfl in_l5rank (.agg #[.int .i64 k1, .bool n1, .int .i64 m1, .int .i64 e1]) rfl (unhide C1 _) ?_
  rintro e w6 ⟨rfl, k6⟩
  refine ⟨_, rfl, ?_⟩
  replace p0 := k6.cell0 p0
  replace p1 := k6.cell0 p1
  replace p2 := k6.cell0 p2
  replace p3 := k6.cell0 p3
  replace t0 := k6.cell0 t0
  replace t1 := k6.cell0 t1
  replace t2 := k6.cell0 t2
  replace t3 := k6.cell0 t3
  replace K := hide ((unhide K).trans k6)
  have z7 := k6.size
  clear k6
  clear hHeld
  refine hK.out _ _ ?_ (fun hHeld => ?_)
  · exact ⟨p0, p1, p2, p3, t0, t1, t2, t3⟩
  clear hK KK
  try simp only [Act.put, List.getElem_toArray, List.getElem_cons_succ, List.getElem_cons_zero, List.setIfInBounds_toArray, List.set_cons_zero, List.set_cons_succ]
  refine wpAnyH_ready (rs := [3]) (by kernel_rfl) (by simp) ?_
  refine AllReadyH.cons rfl (fun KK hK => ?_) AllReadyH.nil
  simp only [List.getElem_toArray, List.getElem_cons_succ, List.getElem_cons_zero]
  rw [if_pos (by rfl)]
  refine wps1 84 (.tmp 28) _ rfl in_l5rank (.agg #[.int .i64 k2, .bool n2, .int .i64 m2, .int .i64 e2]) rfl (unhide C2 _) ?_
  rintro e w8 ⟨rfl, k8⟩
  refine ⟨_, rfl, ?_⟩
  replace p0 := k8.cell0 p0
  replace p1 := k8.cell0 p1
  replace p2 := k8.cell0 p2
  replace p3 := k8.cell0 p3
  replace t0 := k8.cell0 t0
  replace t1 := k8.cell0 t1
  replace t2 := k8.cell0 t2
  replace t3 := k8.cell0 t3
  replace K := hide ((unhide K).trans k8)
  have z9 := k8.size
  clear k8
  clear hHeld
  refine hK.out _ _ ?_ (fun hHeld => ?_)
  · exact ⟨p0, p1, p2, p3, t0, t1, t2, t3⟩
  clear hK KK
  try simp only [Act.put, List.getElem_toArray, List.getElem_cons_succ, List.getElem_cons_zero, List.setIfInBounds_toArray, List.set_cons_zero, List.set_cons_succ]
  refine wpAnyH_take (i := 4) (oi := _) (v := .int .i64 (x)) rfl (by kernel_rfl) (by kernel_rfl) (by kernel_rfl) (fun _ _ _ h => h) (Or.inl ⟨by rfl, ?_⟩) hHeld ?_
  · intro wq hSw
    try dsimp only at hSw
    go_simp
  try simp only [Act.put, List.getElem_toArray, List.getElem_cons_succ, List.getElem_cons_zero, List.setIfInBounds_toArray, List.set_cons_zero, List.set_cons_succ]
  refine wpAnyH_take (i := 5) (oi := _) (v := .int .i64 (y)) rfl (by kernel_rfl) (by kernel_rfl) (by kernel_rfl) (fun _ _ _ h => h) (Or.inl ⟨by rfl, ?_⟩) hHeld ?_
  · intro wq hSw
    try dsimp only at hSw
    go_simp
  try simp only [Act.put, List.getElem_toArray, List.getElem_cons_succ, List.getElem_cons_zero, List.setIfInBounds_toArray, List.set_cons_zero, List.set_cons_succ]
  refine wpAnyH_done (by kernel_rfl) ?_ _
  clear hHeld
  clear C1 C2
  go_wp2_with fail
  all_goals first
    | (go_ret2; refine ⟨?_, unhide K⟩; congr 4; unfold cmpI; split <;> (try split) <;> simp_all <;> omega)
    | (exfalso; clear p0 p1 p2 p3 t0 t1 t2 t3 D1 D2; simp only [beq_eq_false_iff_ne, beq_iff_eq, ne_eq] at *; omega)

set_option maxHeartbeats 4000000 in
theorem flcmp_spec_fin (k1 : Int) (n1 : Bool) (m1 e1 k2 : Int) (n2 : Bool) (m2 e2 : Int) (h1 : flok k1 n1 m1 e1 = true) (h2 : flok k2 n2 m2 e2 = true) (h3 : k1 ≠ 3) (h4 : k2 ≠ 3) (hx : rank k1 n1 = 0) (hy : rank k2 n2 = 0) (ok1 : dokB (wsg (fM k1 n1 m1)) (dlm (fM k1 n1 m1)) (dex (fM k1 n1 m1) e1) = true) (ok2 : dokB (wsg (fM k2 n2 m2)) (dlm (fM k2 n2 m2)) (dex (fM k2 n2 m2) e2) = true) (w : World) :
    Calls Try.prog 47 #[flv k1 n1 m1 e1, flv k2 n2 m2 e2] w fun r w' => r = .returned (.tuple #[.int .i64 (cmpDI (wval (wsg (fM k1 n1 m1)) (dlm (fM k1 n1 m1))) (dex (fM k1 n1 m1) e1) (wval (wsg (fM k2 n2 m2)) (dlm (fM k2 n2 m2))) (dex (fM k2 n2 m2) e2)), .bool true]) ∧ Kept 0 0 w w' := by
  have q3 : (k1 == 3) = false := by simpa using h3
  have q4 : (k2 == 3) = false := by simpa using h4
  have C1 := fun w => rank_any h1 h3 w
  have D1 := fun w => dy5_spec h1 h3 w
  have C2 := fun w => rank_any h2 h4 w
  have D2 := fun w => dy5_spec h2 h4 w
  have HH1 := hide h1
  have HH2 := hide h2
  rw [hx] at C1
  rw [hy] at C2
  have O1 := hide ok1
  have O2 := hide ok2
  clear ok1 ok2
  obtain ⟨SG1, hS1⟩ : ∃ y, wsg (fM k1 n1 m1) = y := ⟨_, rfl⟩
  obtain ⟨ZM1, hZ1⟩ : ∃ y, dlm (fM k1 n1 m1) = y := ⟨_, rfl⟩
  obtain ⟨EX1, hE1⟩ : ∃ y, dex (fM k1 n1 m1) e1 = y := ⟨_, rfl⟩
  rw [hS1, hZ1, hE1] at O1 ⊢
  simp only [hS1, hZ1, hE1] at D1
  clear hS1 hZ1 hE1
  obtain ⟨SG2, hS2⟩ : ∃ y, wsg (fM k2 n2 m2) = y := ⟨_, rfl⟩
  obtain ⟨ZM2, hZ2⟩ : ∃ y, dlm (fM k2 n2 m2) = y := ⟨_, rfl⟩
  obtain ⟨EX2, hE2⟩ : ∃ y, dex (fM k2 n2 m2) e2 = y := ⟨_, rfl⟩
  rw [hS2, hZ2, hE2] at O2 ⊢
  simp only [hS2, hZ2, hE2] at D2
  clear hS2 hZ2 hE2
  obtain ⟨C, hC⟩ : ∃ y, cmpDI (wval SG1 ZM1) EX1 (wval SG2 ZM2) EX2 = y := ⟨_, rfl⟩
  rw [hC]
  have MC := fun w' v1 v2 l1' l2' h1' h2' (r1' : Row .i64 true l1' h1' w' v1 ZM1) (r2' : Row .i64 true l2' h2' w' v2 ZM2) => cmp4_spec SG1 SG2 EX1 EX2 w' r1' r2' (unhide O1) (unhide O2)
  simp only [hC] at MC
  replace MC := hide MC
  clear hC O1 O2
  clear h3 h4 h1 h2 hx hy
  replace C1 := hide C1
  replace C2 := hide C2
  replace D1 := hide D1
  replace D2 := hide D2
  have k0 : Kept 0 0 w ((w.alloc (.cells #[.int .i64 k1, .bool n1, .int .i64 m1, .int .i64 e1] 67)).alloc (.cells #[.int .i64 k2, .bool n2, .int .i64 m2, .int .i64 e2] 67)) := (((Kept.refl 0 0 w).alloc (.cells #[.int .i64 k1, .bool n1, .int .i64 m1, .int .i64 e1] 67)).alloc (.cells #[.int .i64 k2, .bool n2, .int .i64 m2, .int .i64 e2] 67))
  have p0 : ((w.alloc (.cells #[.int .i64 k1, .bool n1, .int .i64 m1, .int .i64 e1] 67)).alloc (.cells #[.int .i64 k2, .bool n2, .int .i64 m2, .int .i64 e2] 67)).cell? ⟨w.heap.size, 0, none⟩ = some (.int .i64 k1) := old_cell _ (new_cell2 _ _ _ _ _ _ (by simp) rfl)
  have p1 : ((w.alloc (.cells #[.int .i64 k1, .bool n1, .int .i64 m1, .int .i64 e1] 67)).alloc (.cells #[.int .i64 k2, .bool n2, .int .i64 m2, .int .i64 e2] 67)).cell? ⟨w.heap.size, 1, none⟩ = some (.bool n1) := old_cell _ (new_cell2 _ _ _ _ _ _ (by simp) rfl)
  have p2 : ((w.alloc (.cells #[.int .i64 k1, .bool n1, .int .i64 m1, .int .i64 e1] 67)).alloc (.cells #[.int .i64 k2, .bool n2, .int .i64 m2, .int .i64 e2] 67)).cell? ⟨w.heap.size, 2, none⟩ = some (.int .i64 m1) := old_cell _ (new_cell2 _ _ _ _ _ _ (by simp) rfl)
  have p3 : ((w.alloc (.cells #[.int .i64 k1, .bool n1, .int .i64 m1, .int .i64 e1] 67)).alloc (.cells #[.int .i64 k2, .bool n2, .int .i64 m2, .int .i64 e2] 67)).cell? ⟨w.heap.size, 3, none⟩ = some (.int .i64 e1) := old_cell _ (new_cell2 _ _ _ _ _ _ (by simp) rfl)
  have t0 : ((w.alloc (.cells #[.int .i64 k1, .bool n1, .int .i64 m1, .int .i64 e1] 67)).alloc (.cells #[.int .i64 k2, .bool n2, .int .i64 m2, .int .i64 e2] 67)).cell? ⟨w.heap.size + 1, 0, none⟩ = some (.int .i64 k2) := new_cell2 _ _ _ _ _ _ (by simp) rfl
  have t1 : ((w.alloc (.cells #[.int .i64 k1, .bool n1, .int .i64 m1, .int .i64 e1] 67)).alloc (.cells #[.int .i64 k2, .bool n2, .int .i64 m2, .int .i64 e2] 67)).cell? ⟨w.heap.size + 1, 1, none⟩ = some (.bool n2) := new_cell2 _ _ _ _ _ _ (by simp) rfl
  have t2 : ((w.alloc (.cells #[.int .i64 k1, .bool n1, .int .i64 m1, .int .i64 e1] 67)).alloc (.cells #[.int .i64 k2, .bool n2, .int .i64 m2, .int .i64 e2] 67)).cell? ⟨w.heap.size + 1, 2, none⟩ = some (.int .i64 m2) := new_cell2 _ _ _ _ _ _ (by simp) rfl
  have t3 : ((w.alloc (.cells #[.int .i64 k1, .bool n1, .int .i64 m1, .int .i64 e1] 67)).alloc (.cells #[.int .i64 k2, .bool n2, .int .i64 m2, .int .i64 e2] 67)).cell? ⟨w.heap.size + 1, 3, none⟩ = some (.int .i64 e2) := new_cell2 _ _ _ _ _ _ (by simp) rfl
  have s0 : ((w.alloc (.cells #[.int .i64 k1, .bool n1, .int .i64 m1, .int .i64 e1] 67)).alloc (.cells #[.int .i64 k2, .bool n2, .int .i64 m2, .int .i64 e2] 67)).heap.size = w.heap.size + 2 := by simp
  have K := hide (k0)
  clear k0
  have S0 := hide s0
  clear s0
  go_enter Try.func47, Try.ntmps47
  go_wp2_with fail
  generalize ((w.alloc (.cells #[.int .i64 k1, .bool n1, .int .i64 m1, .int .i64 e1] 67)).alloc (.cells #[.int .i64 k2, .bool n2, .int .i64 m2, .int .i64 e2] 67)) = W at *
  refine (flok_spec_k (unhide HH1) _).mono ?_
  rintro e w1 ⟨rfl, k1⟩
  replace p0 := k1.cell0 p0
  replace p1 := k1.cell0 p1
  replace p2 := k1.cell0 p2
  replace p3 := k1.cell0 p3
  replace t0 := k1.cell0 t0
  replace t1 := k1.cell0 t1
  replace t2 := k1.cell0 t2
  replace t3 := k1.cell0 t3
  replace K := hide ((unhide K).trans k1)
  have z2 := k1.size
  clear k1
  go_wp2_with fail
  refine (flok_spec_k (unhide HH2) _).mono ?_
  rintro e w3 ⟨rfl, k3⟩
  replace p0 := k3.cell0 p0
  replace p1 := k3.cell0 p1
  replace p2 := k3.cell0 p2
  replace p3 := k3.cell0 p3
  replace t0 := k3.cell0 t0
  replace t1 := k3.cell0 t1
  replace t2 := k3.cell0 t2
  replace t3 := k3.cell0 t3
  replace K := hide ((unhide K).trans k3)
  have z4 := k3.size
  clear k3
  go_upto_region 3 with fail
  have kd := (Kept.refl 0 0 w3).drew
  replace p0 := kd.cell0 p0
  replace p1 := kd.cell0 p1
  replace p2 := kd.cell0 p2
  replace p3 := kd.cell0 p3
  replace t0 := kd.cell0 t0
  replace t1 := kd.cell0 t1
  replace t2 := kd.cell0 t2
  replace t3 := kd.cell0 t3
  replace K := hide ((unhide K).trans kd)
  have z5 := kd.size
  clear kd
  refine wp_region_held_drew (S := (fun w' => w'.cell? ⟨w.heap.size, 0, none⟩ = some (.int .i64 k1) ∧ w'.cell? ⟨w.heap.size, 1, none⟩ = some (.bool n1) ∧ w'.cell? ⟨w.heap.size, 2, none⟩ = some (.int .i64 m1) ∧ w'.cell? ⟨w.heap.size, 3, none⟩ = some (.int .i64 e1) ∧ w'.cell? ⟨w.heap.size + 1, 0, none⟩ = some (.int .i64 k2) ∧ w'.cell? ⟨w.heap.size + 1, 1, none⟩ = some (.bool n2) ∧ w'.cell? ⟨w.heap.size + 1, 2, none⟩ = some (.int .i64 m2) ∧ w'.cell? ⟨w.heap.size + 1, 3, none⟩ = some (.int .i64 e2))) (by kernel_rfl) ?_ (fun hHeld => ?_)
  · exact ⟨p0, p1, p2, p3, t0, t1, t2, t3⟩
  refine wpAnyH_take (i := 0) (oi := _) (v := .agg #[.int .i64 k1, .bool n1, .int .i64 m1, .int .i64 e1]) rfl (by kernel_rfl) (by kernel_rfl) (by kernel_rfl) (fun _ _ _ h => h) (Or.inl ⟨by rfl, ?_⟩) hHeld ?_
  · intro wq hSw
    try dsimp only at hSw
    go_simp
  try simp only [Act.put, List.getElem_toArray, List.getElem_cons_succ, List.getElem_cons_zero, List.setIfInBounds_toArray, List.set_cons_zero, List.set_cons_succ]
  refine wpAnyH_take (i := 2) (oi := _) (v := .agg #[.int .i64 k2, .bool n2, .int .i64 m2, .int .i64 e2]) rfl (by kernel_rfl) (by kernel_rfl) (by kernel_rfl) (fun _ _ _ h => h) (Or.inl ⟨by rfl, ?_⟩) hHeld ?_
  · intro wq hSw
    try dsimp only at hSw
    go_simp
  try simp only [Act.put, List.getElem_toArray, List.getElem_cons_succ, List.getElem_cons_zero, List.setIfInBounds_toArray, List.set_cons_zero, List.set_cons_succ]
  refine wpAnyH_ready (rs := [1]) (by kernel_rfl) (by simp) ?_
  refine AllReadyH.cons rfl (fun KK hK => ?_) AllReadyH.nil
  simp only [List.getElem_toArray, List.getElem_cons_succ, List.getElem_cons_zero]
  rw [if_pos (by rfl)]
  refine wps1 84 (.tmp 26) _ rfl in_l5rank (.agg #[.int .i64 k1, .bool n1, .int .i64 m1, .int .i64 e1]) rfl (unhide C1 _) ?_
  rintro e w6 ⟨rfl, k6⟩
  refine ⟨_, rfl, ?_⟩
  replace p0 := k6.cell0 p0
  replace p1 := k6.cell0 p1
  replace p2 := k6.cell0 p2
  replace p3 := k6.cell0 p3
  replace t0 := k6.cell0 t0
  replace t1 := k6.cell0 t1
  replace t2 := k6.cell0 t2
  replace t3 := k6.cell0 t3
  replace K := hide ((unhide K).trans k6)
  have z7 := k6.size
  clear k6
  clear hHeld
  refine hK.out _ _ ?_ (fun hHeld => ?_)
  · exact ⟨p0, p1, p2, p3, t0, t1, t2, t3⟩
  clear hK KK
  try simp only [Act.put, List.getElem_toArray, List.getElem_cons_succ, List.getElem_cons_zero, List.setIfInBounds_toArray, List.set_cons_zero, List.set_cons_succ]
  refine wpAnyH_ready (rs := [3]) (by kernel_rfl) (by simp) ?_
  refine AllReadyH.cons rfl (fun KK hK => ?_) AllReadyH.nil
  simp only [List.getElem_toArray, List.getElem_cons_succ, List.getElem_cons_zero]
  rw [if_pos (by rfl)]
  refine wps1 84 (.tmp 28) _ rfl in_l5rank (.agg #[.int .i64 k2, .bool n2, .int .i64 m2, .int .i64 e2]) rfl (unhide C2 _) ?_
  rintro e w8 ⟨rfl, k8⟩
  refine ⟨_, rfl, ?_⟩
  replace p0 := k8.cell0 p0
  replace p1 := k8.cell0 p1
  replace p2 := k8.cell0 p2
  replace p3 := k8.cell0 p3
  replace t0 := k8.cell0 t0
  replace t1 := k8.cell0 t1
  replace t2 := k8.cell0 t2
  replace t3 := k8.cell0 t3
  replace K := hide ((unhide K).trans k8)
  have z9 := k8.size
  clear k8
  clear hHeld
  refine hK.out _ _ ?_ (fun hHeld => ?_)
  · exact ⟨p0, p1, p2, p3, t0, t1, t2, t3⟩
  clear hK KK
  try simp only [Act.put, List.getElem_toArray, List.getElem_cons_succ, List.getElem_cons_zero, List.setIfInBounds_toArray, List.set_cons_zero, List.set_cons_succ]
  refine wpAnyH_take (i := 4) (oi := _) (v := .int .i64 (0)) rfl (by kernel_rfl) (by kernel_rfl) (by kernel_rfl) (fun _ _ _ h => h) (Or.inl ⟨by rfl, ?_⟩) hHeld ?_
  · intro wq hSw
    try dsimp only at hSw
    go_simp
  try simp only [Act.put, List.getElem_toArray, List.getElem_cons_succ, List.getElem_cons_zero, List.setIfInBounds_toArray, List.set_cons_zero, List.set_cons_succ]
  refine wpAnyH_take (i := 5) (oi := _) (v := .int .i64 (0)) rfl (by kernel_rfl) (by kernel_rfl) (by kernel_rfl) (fun _ _ _ h => h) (Or.inl ⟨by rfl, ?_⟩) hHeld ?_
  · intro wq hSw
    try dsimp only at hSw
    go_simp
  try simp only [Act.put, List.getElem_toArray, List.getElem_cons_succ, List.getElem_cons_zero, List.setIfInBounds_toArray, List.set_cons_zero, List.set_cons_succ]
  refine wpAnyH_done (by kernel_rfl) ?_ _
  clear hHeld
  clear C1 C2
  go_upto_region 10 with fail
  have kd := (Kept.refl 0 0 w8).drew
  replace p0 := kd.cell0 p0
  replace p1 := kd.cell0 p1
  replace p2 := kd.cell0 p2
  replace p3 := kd.cell0 p3
  replace t0 := kd.cell0 t0
  replace t1 := kd.cell0 t1
  replace t2 := kd.cell0 t2
  replace t3 := kd.cell0 t3
  replace K := hide ((unhide K).trans kd)
  have z10 := kd.size
  clear kd
  refine wp_region_held_drew (S := (fun w' => w'.cell? ⟨w.heap.size, 0, none⟩ = some (.int .i64 k1) ∧ w'.cell? ⟨w.heap.size, 1, none⟩ = some (.bool n1) ∧ w'.cell? ⟨w.heap.size, 2, none⟩ = some (.int .i64 m1) ∧ w'.cell? ⟨w.heap.size, 3, none⟩ = some (.int .i64 e1) ∧ w'.cell? ⟨w.heap.size + 1, 0, none⟩ = some (.int .i64 k2) ∧ w'.cell? ⟨w.heap.size + 1, 1, none⟩ = some (.bool n2) ∧ w'.cell? ⟨w.heap.size + 1, 2, none⟩ = some (.int .i64 m2) ∧ w'.cell? ⟨w.heap.size + 1, 3, none⟩ = some (.int .i64 e2))) (by kernel_rfl) ?_ (fun hHeld => ?_)
  · exact ⟨p0, p1, p2, p3, t0, t1, t2, t3⟩
  refine wpAnyH_take (i := 0) (oi := _) (v := .agg #[.int .i64 k1, .bool n1, .int .i64 m1, .int .i64 e1]) rfl (by kernel_rfl) (by kernel_rfl) (by kernel_rfl) (fun _ _ _ h => h) (Or.inl ⟨by rfl, ?_⟩) hHeld ?_
  · intro wq hSw
    try dsimp only at hSw
    go_simp
  try simp only [Act.put, List.getElem_toArray, List.getElem_cons_succ, List.getElem_cons_zero, List.setIfInBounds_toArray, List.set_cons_zero, List.set_cons_succ]
  refine wpAnyH_take (i := 2) (oi := _) (v := .agg #[.int .i64 k2, .bool n2, .int .i64 m2, .int .i64 e2]) rfl (by kernel_rfl) (by kernel_rfl) (by kernel_rfl) (fun _ _ _ h => h) (Or.inl ⟨by rfl, ?_⟩) hHeld ?_
  · intro wq hSw
    try dsimp only at hSw
    go_simp
  try simp only [Act.put, List.getElem_toArray, List.getElem_cons_succ, List.getElem_cons_zero, List.setIfInBounds_toArray, List.set_cons_zero, List.set_cons_succ]
  refine wpAnyH_ready (rs := [1]) (by kernel_rfl) (by simp) ?_
  refine AllReadyH.cons rfl (fun KK hK => ?_) AllReadyH.nil
  simp only [List.getElem_toArray, List.getElem_cons_succ, List.getElem_cons_zero]
  rw [if_pos (by rfl)]
  refine wps1 86 (.tmp 47) _ rfl in_l5dy (.agg #[.int .i64 k1, .bool n1, .int .i64 m1, .int .i64 e1]) rfl (unhide D1 _) ?_
  rintro e w11 ⟨v5, rfl, r5, k11⟩
  refine ⟨_, rfl, ?_⟩
  replace p0 := k11.cell0 p0
  replace p1 := k11.cell0 p1
  replace p2 := k11.cell0 p2
  replace p3 := k11.cell0 p3
  replace t0 := k11.cell0 t0
  replace t1 := k11.cell0 t1
  replace t2 := k11.cell0 t2
  replace t3 := k11.cell0 t3
  replace K := hide ((unhide K).trans k11)
  have z12 := k11.size
  clear k11
  clear hHeld
  refine hK.out _ _ ?_ (fun hHeld => ?_)
  · exact ⟨p0, p1, p2, p3, t0, t1, t2, t3⟩
  clear hK KK
  try simp only [Act.put, List.getElem_toArray, List.getElem_cons_succ, List.getElem_cons_zero, List.setIfInBounds_toArray, List.set_cons_zero, List.set_cons_succ]
  refine wpAnyH_ready (rs := [3]) (by kernel_rfl) (by simp) ?_
  refine AllReadyH.cons rfl (fun KK hK => ?_) AllReadyH.nil
  simp only [List.getElem_toArray, List.getElem_cons_succ, List.getElem_cons_zero]
  rw [if_pos (by rfl)]
  refine wps1 86 (.tmp 49) _ rfl in_l5dy (.agg #[.int .i64 k2, .bool n2, .int .i64 m2, .int .i64 e2]) rfl (unhide D2 _) ?_
  rintro e w13 ⟨v6, rfl, r6, k13⟩
  refine ⟨_, rfl, ?_⟩
  replace r5 := r5.kept k13 (by omega)
  replace p0 := k13.cell0 p0
  replace p1 := k13.cell0 p1
  replace p2 := k13.cell0 p2
  replace p3 := k13.cell0 p3
  replace t0 := k13.cell0 t0
  replace t1 := k13.cell0 t1
  replace t2 := k13.cell0 t2
  replace t3 := k13.cell0 t3
  replace K := hide ((unhide K).trans k13)
  have z14 := k13.size
  clear k13
  clear hHeld
  refine hK.out _ _ ?_ (fun hHeld => ?_)
  · exact ⟨p0, p1, p2, p3, t0, t1, t2, t3⟩
  clear hK KK
  try simp only [Act.put, List.getElem_toArray, List.getElem_cons_succ, List.getElem_cons_zero, List.setIfInBounds_toArray, List.set_cons_zero, List.set_cons_succ]
  refine wpAnyH_ready (rs := [4]) (by kernel_rfl) (by simp) ?_
  refine AllReadyH.cons rfl (fun KK hK => ?_) AllReadyH.nil
  simp only [List.getElem_toArray, List.getElem_cons_succ, List.getElem_cons_zero]
  rw [if_pos (by rfl)]
  refine wps2 85 (.tmp 48) (.tmp 50) _ rfl in_l4cmp (.agg #[.bool SG1, v5, .int .i64 EX1]) (.agg #[.bool SG2, v6, .int .i64 EX2]) rfl rfl (unhide MC _ _ _ _ _ _ _ r5 r6) ?_
  rintro e w15 ⟨rfl, k15⟩
  refine ⟨_, rfl, ?_⟩
  replace r5 := r5.kept k15 (by omega)
  replace r6 := r6.kept k15 (by omega)
  replace p0 := k15.cell0 p0
  replace p1 := k15.cell0 p1
  replace p2 := k15.cell0 p2
  replace p3 := k15.cell0 p3
  replace t0 := k15.cell0 t0
  replace t1 := k15.cell0 t1
  replace t2 := k15.cell0 t2
  replace t3 := k15.cell0 t3
  replace K := hide ((unhide K).trans k15)
  have z16 := k15.size
  clear k15
  clear hHeld
  refine hK.out _ _ ?_ (fun hHeld => ?_)
  · exact ⟨p0, p1, p2, p3, t0, t1, t2, t3⟩
  clear hK KK
  try simp only [Act.put, List.getElem_toArray, List.getElem_cons_succ, List.getElem_cons_zero, List.setIfInBounds_toArray, List.set_cons_zero, List.set_cons_succ]
  refine wpAnyH_take (i := 5) (oi := _) (v := .int .i64 C) rfl (by kernel_rfl) (by kernel_rfl) (by kernel_rfl) (fun _ _ _ h => h) (Or.inl ⟨by rfl, ?_⟩) hHeld ?_
  · intro wq hSw
    try dsimp only at hSw
    go_simp
  try simp only [Act.put, List.getElem_toArray, List.getElem_cons_succ, List.getElem_cons_zero, List.setIfInBounds_toArray, List.set_cons_zero, List.set_cons_succ]
  refine wpAnyH_take (i := 6) (oi := _) (v := .bool true) rfl (by kernel_rfl) (by kernel_rfl) (by kernel_rfl) (fun _ _ _ h => h) (Or.inl ⟨by rfl, ?_⟩) hHeld ?_
  · intro wq hSw
    try dsimp only at hSw
    go_simp
  try simp only [Act.put, List.getElem_toArray, List.getElem_cons_succ, List.getElem_cons_zero, List.setIfInBounds_toArray, List.set_cons_zero, List.set_cons_succ]
  refine wpAnyH_done (by kernel_rfl) ?_ _
  clear hHeld
  clear r5 r6
  go_wp2_with fail
  go_ret2
  exact ⟨rfl, unhide K⟩

/-- A float that is a number, in one form: nought is 0 at the least power. -/
theorem fin_form {k : Int} {n : Bool} {m e : Int} (h : flok k n m e = true) (h9 : k ≠ 3) (h2 : k ≠ 2) :
    ∃ (M : Int) (E : Nat), 0 ≤ M ∧ M ≤ 9007199254740991 ∧ E ≤ 2045 ∧ (4503599627370496 ≤ M ∨ E = 0) ∧ rank k n = 0 ∧ (fM k n m) * 2 ^ (e - -1074).toNat = (if n = true then -M else M) * 2 ^ E ∧
      plc k n m e = (if n = true then -((E : Int) * 4503599627370496 + M) else (E : Int) * 4503599627370496 + M) ∧ (fM k n m).natAbs < 2 ^ 64 ∧ -1074 ≤ e ∧ e ≤ 971 := by
  have e64 : (2 : Nat) ^ 64 = 18446744073709551616 := by decide
  rcases flok_ways h with ⟨rfl, h1, h2, h3, h4, h5⟩ | ⟨rfl, rfl, rfl⟩ | ⟨rfl, rfl, rfl⟩ | ⟨rfl, -⟩
  · refine ⟨m, (e + 1074).toNat, by omega, h4, by omega, by omega, rfl, ?_, ?_, ?_, h1, h2⟩
    · unfold fM
      rw [if_pos rfl, show e - -1074 = e + 1074 by omega]
    · unfold plc
      rw [if_pos rfl, show (((e + 1074).toNat : Nat) : Int) = e + 1074 by omega]
    · unfold fM
      rw [if_pos rfl, e64]
      split <;> omega
  · refine ⟨0, 0, by omega, by omega, by omega, .inr rfl, rfl, ?_, ?_, ?_, by omega, by omega⟩
    · rw [fM_zero (by decide), Int.zero_mul]; cases n <;> rfl
    · unfold plc; cases n <;> rfl
    · rw [fM_zero (by decide), e64]; omega
  · exact absurd rfl h2
  · exact absurd rfl h9

theorem inf_place {n : Bool} {m e : Int} : plc 2 n m e = (if n = true then -9218868437227405312 else 9218868437227405312) ∧ rank 2 n = (if n = true then -2 else 2) := ⟨rfl, rfl⟩

theorem flcmp_spec_good (k1 : Int) (n1 : Bool) (m1 e1 k2 : Int) (n2 : Bool) (m2 e2 : Int) (h1 : flok k1 n1 m1 e1 = true) (h2 : flok k2 n2 m2 e2 = true) (h3 : k1 ≠ 3) (h4 : k2 ≠ 3) (w : World) :
    Calls Try.prog 47 #[flv k1 n1 m1 e1, flv k2 n2 m2 e2] w fun r w' => r = .returned (.tuple #[.int .i64 (cmpI (plc k1 n1 m1 e1) (plc k2 n2 m2 e2)), .bool true]) ∧ Kept 0 0 w w' := by
  by_cases g1 : k1 = 2
  · subst g1
    by_cases g2 : k2 = 2
    · subst g2
      have := flcmp_spec_inf 2 n1 m1 e1 2 n2 m2 e2 h1 h2 h3 h4 _ _ rfl rfl (by cases n1 <;> simp [rank]) w
      rw [show cmpI (plc 2 n1 m1 e1) (plc 2 n2 m2 e2) = cmpI (rank 2 n1) (rank 2 n2) by cases n1 <;> cases n2 <;> rfl]
      exact this
    · obtain ⟨M, E, a1, a2, a3, a4, a5, -, a7, -⟩ := fin_form h2 h4 g2
      have := flcmp_spec_inf 2 n1 m1 e1 k2 n2 m2 e2 h1 h2 h3 h4 _ _ rfl a5 (by cases n1 <;> simp [rank]) w
      rw [show cmpI (plc 2 n1 m1 e1) (plc k2 n2 m2 e2) = cmpI (rank 2 n1) 0 by
        rw [a7, (inf_place (n := n1) (m := m1) (e := e1)).1, (inf_place (n := n1) (m := m1) (e := e1)).2]
        cases n1 <;> cases n2 <;> simp only [Bool.false_eq_true, if_false, if_true] <;> unfold cmpI <;> split <;> split <;> (try split) <;> omega]
      exact this
  · obtain ⟨M, E, a1, a2, a3, a4, a5, a6, a7, a8, a9, a10⟩ := fin_form h1 h3 g1
    by_cases g2 : k2 = 2
    · subst g2
      have := flcmp_spec_inf k1 n1 m1 e1 2 n2 m2 e2 h1 h2 h3 h4 _ _ a5 rfl (by cases n2 <;> simp [rank]) w
      rw [show cmpI (plc k1 n1 m1 e1) (plc 2 n2 m2 e2) = cmpI 0 (rank 2 n2) by
        rw [a7, (inf_place (n := n2) (m := m2) (e := e2)).1, (inf_place (n := n2) (m := m2) (e := e2)).2]
        cases n1 <;> cases n2 <;> simp only [Bool.false_eq_true, if_false, if_true] <;> unfold cmpI <;> split <;> split <;> (try split) <;> omega]
      exact this
    · obtain ⟨M', E', b1, b2, b3, b4, b5, b6, b7, b8, b9, b10⟩ := fin_form h2 h4 g2
      have := flcmp_spec_fin k1 n1 m1 e1 k2 n2 m2 e2 h1 h2 h3 h4 a5 b5 (dok_told' _ _ a8 (by omega) (by omega)) (dok_told' _ _ b8 (by omega) (by omega)) w
      rw [cmpDI_at _ _ _ _ (-1074) (dex_low _ _ _ (by omega) (by omega)) (dex_low _ _ _ (by omega) (by omega)), d_value _ _ _ (by omega) (by omega), d_value _ _ _ (by omega) (by omega), a6, b6,
        place_cmp n1 n2 M M' E E' a1 a2 b1 b2 a4 b4] at this
      rw [a7, b7]
      exact this

theorem flcmp_spec (k1 : Int) (n1 : Bool) (m1 e1 k2 : Int) (n2 : Bool) (m2 e2 : Int) (w : World) :
    Calls Try.prog 47 #[flv k1 n1 m1 e1, flv k2 n2 m2 e2] w fun r w' => r = .returned (.tuple #[.int .i64 (fcmI k1 n1 m1 e1 k2 n2 m2 e2), .bool (fcmB k1 n1 m1 e1 k2 n2 m2 e2)]) ∧ Kept 0 0 w w' := by
  by_cases hg : fcmB k1 n1 m1 e1 k2 n2 m2 e2 = true
  · have hg' := hg
    unfold fcmB at hg'
    simp only [Bool.and_eq_true, bne_iff_ne, ne_eq] at hg'
    obtain ⟨⟨⟨h1, h2⟩, h3⟩, h4⟩ := hg'
    unfold fcmI
    rw [if_pos hg, hg]
    exact flcmp_spec_good k1 n1 m1 e1 k2 n2 m2 e2 h1 h2 h3 h4 w
  · unfold fcmI
    rw [if_neg hg, show fcmB k1 n1 m1 e1 k2 n2 m2 e2 = false by simpa using hg]
    by_cases h1 : flok k1 n1 m1 e1 = true
    · by_cases h2 : flok k2 n2 m2 e2 = true
      · by_cases h3 : k1 = 3
        · subst h3
          rcases flok_ways h1 with ⟨h9, -⟩ | ⟨h9, -⟩ | ⟨h9, -⟩ | ⟨-, rfl, rfl, rfl⟩
          · omega
          · omega
          · omega
          · exact flcmp_spec_nan1 k2 n2 m2 e2 h1 h2 w
        · by_cases h4 : k2 = 3
          · subst h4
            rcases flok_ways h2 with ⟨h9, -⟩ | ⟨h9, -⟩ | ⟨h9, -⟩ | ⟨-, rfl, rfl, rfl⟩
            · omega
            · omega
            · omega
            · exact flcmp_spec_nan2 k1 n1 m1 e1 h1 h2 (by simp [h3]) w
          · exact absurd (by unfold fcmB; simp [h1, h2, h3, h4]) hg
      · exact flcmp_spec_no2 k1 n1 m1 e1 k2 n2 m2 e2 h1 (by simpa using h2) w
    · exact flcmp_spec_no1 k1 n1 m1 e1 k2 n2 m2 e2 (by simpa using h1) w

end Go.Proofs.Ytdlpkppkmfjdiaa
