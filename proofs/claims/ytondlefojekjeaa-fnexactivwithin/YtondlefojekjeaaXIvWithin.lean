/-
  The walk of the law FnExactIvWithin: it returns true at every argument.
-/
import Derived.Test.YtondlefojekjeaaIv1
import Derived.Test.YtondlefojekjeaaLawD
import Derived.Test.YtondlefojekjeaaLawW
import Derived.Deep.DeepCutAuto
namespace Go.Proofs.Ytondlefojekjeaa
open Go.RowKit
set_option linter.unusedVariables false
set_option maxRecDepth 8000
set_option linter.unusedSimpArgs false

theorem wf_IvWithin {n : Int} (h : (Lit.int .i64 n).wf = true) : n ≤ 9223372036854775807 ∧ -9223372036854775808 ≤ n := by
  have e : (Lit.int .i64 n).wf = (decide (IntKind.i64.min ≤ n) && decide (n ≤ IntKind.i64.max)) := rfl
  rw [e, show IntKind.i64.min = -9223372036854775808 by decide, show IntKind.i64.max = 9223372036854775807 by decide] at h
  simp at h
  omega

set_option maxHeartbeats 16000000 in
theorem law_IvWithin {u0 : Value} {z0 : List Int} {u0b : Value} {z0b : List Int} {u1 : Value} {z1 : List Int} {u1b : Value} {z1b : List Int} {w : World} (s0 : Bool) (y0 : Int) (r0 : Row .i64 false 0 w.heap.size w u0 z0) (fy0 : (Lit.int .i64 y0).wf = true) (s0b : Bool) (y0b : Int) (r0b : Row .i64 false 0 w.heap.size w u0b z0b) (fy0b : (Lit.int .i64 y0b).wf = true) (s1 : Bool) (y1 : Int) (r1 : Row .i64 false 0 w.heap.size w u1 z1) (fy1 : (Lit.int .i64 y1).wf = true) (s1b : Bool) (y1b : Int) (r1b : Row .i64 false 0 w.heap.size w u1b z1b) (fy1b : (Lit.int .i64 y1b).wf = true) :
    Calls Try.prog 6 #[.agg #[.bool s0, u0, .int .i64 y0, .bool s0b, u0b, .int .i64 y0b], .agg #[.bool s1, u1, .int .i64 y1, .bool s1b, u1b, .int .i64 y1b]] w fun e w' => e = .returned (.bool true) ∧ Below w.heap.size w w' := by
  have gy0 : y0 ≤ 9223372036854775807 ∧ -9223372036854775808 ≤ y0 := wf_IvWithin fy0
  clear fy0
  have gy0b : y0b ≤ 9223372036854775807 ∧ -9223372036854775808 ≤ y0b := wf_IvWithin fy0b
  clear fy0b
  have gy1 : y1 ≤ 9223372036854775807 ∧ -9223372036854775808 ≤ y1 := wf_IvWithin fy1
  clear fy1
  have gy1b : y1b ≤ 9223372036854775807 ∧ -9223372036854775808 ≤ y1b := wf_IvWithin fy1b
  clear fy1b
  obtain ⟨B0, hB0⟩ : ∃ B, iwB s0 z0 y0 s0b z0b y0b s1 z1 y1 s1b z1b y1b = B := ⟨_, rfl⟩
  have hm0 := r0.len
  unfold maxLen at hm0
  have hm0b := r0b.len
  unfold maxLen at hm0b
  have hm1 := r1.len
  unfold maxLen at hm1
  have hm1b := r1b.len
  unfold maxLen at hm1b
  have k0 : Kept 0 0 w ((w.alloc (.cells #[.bool s0, u0, .int .i64 y0, .bool s0b, u0b, .int .i64 y0b] 40)).alloc (.cells #[.bool s1, u1, .int .i64 y1, .bool s1b, u1b, .int .i64 y1b] 40)) := (((Kept.refl 0 0 w).alloc (.cells #[.bool s0, u0, .int .i64 y0, .bool s0b, u0b, .int .i64 y0b] 40)).alloc (.cells #[.bool s1, u1, .int .i64 y1, .bool s1b, u1b, .int .i64 y1b] 40))
  have A0_0 : ((w.alloc (.cells #[.bool s0, u0, .int .i64 y0, .bool s0b, u0b, .int .i64 y0b] 40)).alloc (.cells #[.bool s1, u1, .int .i64 y1, .bool s1b, u1b, .int .i64 y1b] 40)).cell? ⟨w.heap.size, 0, none⟩ = some (.bool s0) := old_cell _ (new_cell2 _ _ _ _ _ _ (by simp) rfl)
  have A0_1 : ((w.alloc (.cells #[.bool s0, u0, .int .i64 y0, .bool s0b, u0b, .int .i64 y0b] 40)).alloc (.cells #[.bool s1, u1, .int .i64 y1, .bool s1b, u1b, .int .i64 y1b] 40)).cell? ⟨w.heap.size, 1, none⟩ = some (u0) := old_cell _ (new_cell2 _ _ _ _ _ _ (by simp) rfl)
  have A0_2 : ((w.alloc (.cells #[.bool s0, u0, .int .i64 y0, .bool s0b, u0b, .int .i64 y0b] 40)).alloc (.cells #[.bool s1, u1, .int .i64 y1, .bool s1b, u1b, .int .i64 y1b] 40)).cell? ⟨w.heap.size, 2, none⟩ = some (.int .i64 y0) := old_cell _ (new_cell2 _ _ _ _ _ _ (by simp) rfl)
  have A0_3 : ((w.alloc (.cells #[.bool s0, u0, .int .i64 y0, .bool s0b, u0b, .int .i64 y0b] 40)).alloc (.cells #[.bool s1, u1, .int .i64 y1, .bool s1b, u1b, .int .i64 y1b] 40)).cell? ⟨w.heap.size, 3, none⟩ = some (.bool s0b) := old_cell _ (new_cell2 _ _ _ _ _ _ (by simp) rfl)
  have A0_4 : ((w.alloc (.cells #[.bool s0, u0, .int .i64 y0, .bool s0b, u0b, .int .i64 y0b] 40)).alloc (.cells #[.bool s1, u1, .int .i64 y1, .bool s1b, u1b, .int .i64 y1b] 40)).cell? ⟨w.heap.size, 4, none⟩ = some (u0b) := old_cell _ (new_cell2 _ _ _ _ _ _ (by simp) rfl)
  have A0_5 : ((w.alloc (.cells #[.bool s0, u0, .int .i64 y0, .bool s0b, u0b, .int .i64 y0b] 40)).alloc (.cells #[.bool s1, u1, .int .i64 y1, .bool s1b, u1b, .int .i64 y1b] 40)).cell? ⟨w.heap.size, 5, none⟩ = some (.int .i64 y0b) := old_cell _ (new_cell2 _ _ _ _ _ _ (by simp) rfl)
  have A1_0 : ((w.alloc (.cells #[.bool s0, u0, .int .i64 y0, .bool s0b, u0b, .int .i64 y0b] 40)).alloc (.cells #[.bool s1, u1, .int .i64 y1, .bool s1b, u1b, .int .i64 y1b] 40)).cell? ⟨w.heap.size + 1, 0, none⟩ = some (.bool s1) := new_cell2 _ _ _ _ _ _ (by simp) rfl
  have A1_1 : ((w.alloc (.cells #[.bool s0, u0, .int .i64 y0, .bool s0b, u0b, .int .i64 y0b] 40)).alloc (.cells #[.bool s1, u1, .int .i64 y1, .bool s1b, u1b, .int .i64 y1b] 40)).cell? ⟨w.heap.size + 1, 1, none⟩ = some (u1) := new_cell2 _ _ _ _ _ _ (by simp) rfl
  have A1_2 : ((w.alloc (.cells #[.bool s0, u0, .int .i64 y0, .bool s0b, u0b, .int .i64 y0b] 40)).alloc (.cells #[.bool s1, u1, .int .i64 y1, .bool s1b, u1b, .int .i64 y1b] 40)).cell? ⟨w.heap.size + 1, 2, none⟩ = some (.int .i64 y1) := new_cell2 _ _ _ _ _ _ (by simp) rfl
  have A1_3 : ((w.alloc (.cells #[.bool s0, u0, .int .i64 y0, .bool s0b, u0b, .int .i64 y0b] 40)).alloc (.cells #[.bool s1, u1, .int .i64 y1, .bool s1b, u1b, .int .i64 y1b] 40)).cell? ⟨w.heap.size + 1, 3, none⟩ = some (.bool s1b) := new_cell2 _ _ _ _ _ _ (by simp) rfl
  have A1_4 : ((w.alloc (.cells #[.bool s0, u0, .int .i64 y0, .bool s0b, u0b, .int .i64 y0b] 40)).alloc (.cells #[.bool s1, u1, .int .i64 y1, .bool s1b, u1b, .int .i64 y1b] 40)).cell? ⟨w.heap.size + 1, 4, none⟩ = some (u1b) := new_cell2 _ _ _ _ _ _ (by simp) rfl
  have A1_5 : ((w.alloc (.cells #[.bool s0, u0, .int .i64 y0, .bool s0b, u0b, .int .i64 y0b] 40)).alloc (.cells #[.bool s1, u1, .int .i64 y1, .bool s1b, u1b, .int .i64 y1b] 40)).cell? ⟨w.heap.size + 1, 5, none⟩ = some (.int .i64 y1b) := new_cell2 _ _ _ _ _ _ (by simp) rfl
  replace r0 := r0.kept k0 (by omega)
  replace r0b := r0b.kept k0 (by omega)
  replace r1 := r1.kept k0 (by omega)
  replace r1b := r1b.kept k0 (by omega)
  have s0 : ((w.alloc (.cells #[.bool s0, u0, .int .i64 y0, .bool s0b, u0b, .int .i64 y0b] 40)).alloc (.cells #[.bool s1, u1, .int .i64 y1, .bool s1b, u1b, .int .i64 y1b] 40)).heap.size = w.heap.size + 2 := by simp
  obtain ⟨a0, c0, hv⟩ := Row.form' r0
  subst hv
  obtain ⟨a0b, c0b, hv⟩ := Row.form' r0b
  subst hv
  obtain ⟨a1, c1, hv⟩ := Row.form' r1
  subst hv
  obtain ⟨a1b, c1b, hv⟩ := Row.form' r1b
  subst hv
  have K := hide (k0)
  clear k0
  have S0 := hide s0
  clear s0
  have EB0 := hide hB0
  clear hB0
  go_enter Try.func6, Try.ntmps6
  skip
  go_wp2_with fail
  generalize ((w.alloc (.cells #[.bool s0, .slice a0 z0.length c0, .int .i64 y0, .bool s0b, .slice a0b z0b.length c0b, .int .i64 y0b] 40)).alloc (.cells #[.bool s1, .slice a1 z1.length c1, .int .i64 y1, .bool s1b, .slice a1b z1b.length c1b, .int .i64 y1b] 40)) = W at *
  refine (szIv_any (s0) (y0) (s0b) (y0b) _ (1048576) (by omega) (by omega) r0 r0b).mono ?_
  rintro e w1 ⟨rfl, k1⟩
  replace r0 := r0.kept k1 (.inr (.inr (Nat.le_refl 0)))
  replace r0b := r0b.kept k1 (.inr (.inr (Nat.le_refl 0)))
  replace r1 := r1.kept k1 (.inr (.inr (Nat.le_refl 0)))
  replace r1b := r1b.kept k1 (.inr (.inr (Nat.le_refl 0)))
  replace A0_0 := k1.cell0 A0_0
  replace A0_1 := k1.cell0 A0_1
  replace A0_2 := k1.cell0 A0_2
  replace A0_3 := k1.cell0 A0_3
  replace A0_4 := k1.cell0 A0_4
  replace A0_5 := k1.cell0 A0_5
  replace A1_0 := k1.cell0 A1_0
  replace A1_1 := k1.cell0 A1_1
  replace A1_2 := k1.cell0 A1_2
  replace A1_3 := k1.cell0 A1_3
  replace A1_4 := k1.cell0 A1_4
  replace A1_5 := k1.cell0 A1_5
  replace K := hide ((unhide K).trans k1)
  have z2 := k1.size
  clear k1
  by_cases big0 : ((z0.length : Int) + (z0b.length : Int)) ≤ 1048576
  rotate_left
  · rw [if_neg big0]
    go_wp2_with fail
    go_ret
    exact ⟨rfl, (unhide K).toBelow⟩
  rw [if_pos big0]
  have nb0 : ¬ (1048576 - ((z0.length : Int) + (z0b.length : Int))) < 0 := by omega
  go_wp2_with fail
  refine (szIv_any (s1) (y1) (s1b) (y1b) _ ((1048576 - ((z0.length : Int) + (z0b.length : Int)))) (by omega) (by omega) r1 r1b).mono ?_
  rintro e w3 ⟨rfl, k3⟩
  replace r0 := r0.kept k3 (.inr (.inr (Nat.le_refl 0)))
  replace r0b := r0b.kept k3 (.inr (.inr (Nat.le_refl 0)))
  replace r1 := r1.kept k3 (.inr (.inr (Nat.le_refl 0)))
  replace r1b := r1b.kept k3 (.inr (.inr (Nat.le_refl 0)))
  replace A0_0 := k3.cell0 A0_0
  replace A0_1 := k3.cell0 A0_1
  replace A0_2 := k3.cell0 A0_2
  replace A0_3 := k3.cell0 A0_3
  replace A0_4 := k3.cell0 A0_4
  replace A0_5 := k3.cell0 A0_5
  replace A1_0 := k3.cell0 A1_0
  replace A1_1 := k3.cell0 A1_1
  replace A1_2 := k3.cell0 A1_2
  replace A1_3 := k3.cell0 A1_3
  replace A1_4 := k3.cell0 A1_4
  replace A1_5 := k3.cell0 A1_5
  replace K := hide ((unhide K).trans k3)
  have z4 := k3.size
  clear k3
  by_cases big1 : ((z1.length : Int) + (z1b.length : Int)) ≤ (1048576 - ((z0.length : Int) + (z0b.length : Int)))
  rotate_left
  · rw [if_neg big1]
    go_wp2_with fail
    go_ret
    exact ⟨rfl, (unhide K).toBelow⟩
  rw [if_pos big1]
  have nb1 : ¬ ((1048576 - ((z0.length : Int) + (z0b.length : Int))) - ((z1.length : Int) + (z1b.length : Int))) < 0 := by omega
  have hn0 : z0.length ≤ 1099511627776 := by omega
  have hn0b : z0b.length ≤ 1099511627776 := by omega
  have hn1 : z1.length ≤ 1099511627776 := by omega
  have hn1b : z1b.length ≤ 1099511627776 := by omega
  go_wp2_with fail
  have kd := (Kept.refl 0 0 w3).drew
  replace r0 := r0.kept kd (.inr (.inr (Nat.le_refl 0)))
  replace r0b := r0b.kept kd (.inr (.inr (Nat.le_refl 0)))
  replace r1 := r1.kept kd (.inr (.inr (Nat.le_refl 0)))
  replace r1b := r1b.kept kd (.inr (.inr (Nat.le_refl 0)))
  replace A0_0 := kd.cell0 A0_0
  replace A0_1 := kd.cell0 A0_1
  replace A0_2 := kd.cell0 A0_2
  replace A0_3 := kd.cell0 A0_3
  replace A0_4 := kd.cell0 A0_4
  replace A0_5 := kd.cell0 A0_5
  replace A1_0 := kd.cell0 A1_0
  replace A1_1 := kd.cell0 A1_1
  replace A1_2 := kd.cell0 A1_2
  replace A1_3 := kd.cell0 A1_3
  replace A1_4 := kd.cell0 A1_4
  replace A1_5 := kd.cell0 A1_5
  replace K := hide ((unhide K).trans kd)
  have z5 := kd.size
  clear kd
  refine wp_region_held_drew (S := (fun w' => w'.cell? ⟨w.heap.size, 0, none⟩ = some (.bool s0) ∧ w'.cell? ⟨w.heap.size, 1, none⟩ = some (.slice a0 z0.length c0) ∧ w'.cell? ⟨w.heap.size, 2, none⟩ = some (.int .i64 y0) ∧ w'.cell? ⟨w.heap.size, 3, none⟩ = some (.bool s0b) ∧ w'.cell? ⟨w.heap.size, 4, none⟩ = some (.slice a0b z0b.length c0b) ∧ w'.cell? ⟨w.heap.size, 5, none⟩ = some (.int .i64 y0b) ∧ w'.cell? ⟨w.heap.size + 1, 0, none⟩ = some (.bool s1) ∧ w'.cell? ⟨w.heap.size + 1, 1, none⟩ = some (.slice a1 z1.length c1) ∧ w'.cell? ⟨w.heap.size + 1, 2, none⟩ = some (.int .i64 y1) ∧ w'.cell? ⟨w.heap.size + 1, 3, none⟩ = some (.bool s1b) ∧ w'.cell? ⟨w.heap.size + 1, 4, none⟩ = some (.slice a1b z1b.length c1b) ∧ w'.cell? ⟨w.heap.size + 1, 5, none⟩ = some (.int .i64 y1b))) (by kernel_rfl) ?_ (fun hHeld => ?_)
  · exact ⟨A0_0, A0_1, A0_2, A0_3, A0_4, A0_5, A1_0, A1_1, A1_2, A1_3, A1_4, A1_5⟩
  refine wpAnyH_take (i := 0) (oi := _) (v := .agg #[.bool s0, .slice a0 z0.length c0, .int .i64 y0, .bool s0b, .slice a0b z0b.length c0b, .int .i64 y0b]) rfl (by kernel_rfl) (by kernel_rfl) (by kernel_rfl) (fun _ _ _ h => h) (Or.inl ⟨by rfl, ?_⟩) hHeld ?_
  · intro wq hSw
    try dsimp only at hSw
    go_simp
  try simp only [Act.put, List.getElem_toArray, List.getElem_cons_succ, List.getElem_cons_zero, List.setIfInBounds_toArray, List.set_cons_zero, List.set_cons_succ]
  refine wpAnyH_take (i := 2) (oi := _) (v := .agg #[.bool s1, .slice a1 z1.length c1, .int .i64 y1, .bool s1b, .slice a1b z1b.length c1b, .int .i64 y1b]) rfl (by kernel_rfl) (by kernel_rfl) (by kernel_rfl) (fun _ _ _ h => h) (Or.inl ⟨by rfl, ?_⟩) hHeld ?_
  · intro wq hSw
    try dsimp only at hSw
    go_simp
  try simp only [Act.put, List.getElem_toArray, List.getElem_cons_succ, List.getElem_cons_zero, List.setIfInBounds_toArray, List.set_cons_zero, List.set_cons_succ]
  refine wpAnyH_ready (rs := [1]) (by kernel_rfl) (by simp) ?_
  refine AllReadyH.cons rfl (fun KK hK => ?_) AllReadyH.nil
  simp only [List.getElem_toArray, List.getElem_cons_succ, List.getElem_cons_zero]
  rw [if_pos (by rfl)]
  refine wps1 14 (.tmp 20) _ rfl in_toV (.agg #[.bool s0, .slice a0 z0.length c0, .int .i64 y0, .bool s0b, .slice a0b z0b.length c0b, .int .i64 y0b]) rfl (toIv_any (s0) (y0) (s0b) (y0b) _ hn0 hn0b r0 r0b) ?_
  rintro e w6 ⟨v70, v70b, mm70, rfl, r70, r70b, hma70, hmb70, k6⟩
  refine ⟨_, rfl, ?_⟩
  replace r0 := r0.kept k6 (.inr (.inr (Nat.le_refl 0)))
  replace r0b := r0b.kept k6 (.inr (.inr (Nat.le_refl 0)))
  replace r1 := r1.kept k6 (.inr (.inr (Nat.le_refl 0)))
  replace r1b := r1b.kept k6 (.inr (.inr (Nat.le_refl 0)))
  replace A0_0 := k6.cell0 A0_0
  replace A0_1 := k6.cell0 A0_1
  replace A0_2 := k6.cell0 A0_2
  replace A0_3 := k6.cell0 A0_3
  replace A0_4 := k6.cell0 A0_4
  replace A0_5 := k6.cell0 A0_5
  replace A1_0 := k6.cell0 A1_0
  replace A1_1 := k6.cell0 A1_1
  replace A1_2 := k6.cell0 A1_2
  replace A1_3 := k6.cell0 A1_3
  replace A1_4 := k6.cell0 A1_4
  replace A1_5 := k6.cell0 A1_5
  replace K := hide ((unhide K).trans k6)
  have z7 := k6.size
  clear k6
  clear hHeld
  refine hK.out _ _ ?_ (fun hHeld => ?_)
  · exact ⟨A0_0, A0_1, A0_2, A0_3, A0_4, A0_5, A1_0, A1_1, A1_2, A1_3, A1_4, A1_5⟩
  clear hK KK
  try simp only [Act.put, List.getElem_toArray, List.getElem_cons_succ, List.getElem_cons_zero, List.setIfInBounds_toArray, List.set_cons_zero, List.set_cons_succ]
  refine wpAnyH_ready (rs := [3]) (by kernel_rfl) (by simp) ?_
  refine AllReadyH.cons rfl (fun KK hK => ?_) AllReadyH.nil
  simp only [List.getElem_toArray, List.getElem_cons_succ, List.getElem_cons_zero]
  rw [if_pos (by rfl)]
  refine wps1 14 (.tmp 22) _ rfl in_toV (.agg #[.bool s1, .slice a1 z1.length c1, .int .i64 y1, .bool s1b, .slice a1b z1b.length c1b, .int .i64 y1b]) rfl (toIv_any (s1) (y1) (s1b) (y1b) _ hn1 hn1b r1 r1b) ?_
  rintro e w8 ⟨v71, v71b, mm71, rfl, r71, r71b, hma71, hmb71, k8⟩
  refine ⟨_, rfl, ?_⟩
  replace r0 := r0.kept k8 (.inr (.inr (Nat.le_refl 0)))
  replace r0b := r0b.kept k8 (.inr (.inr (Nat.le_refl 0)))
  replace r1 := r1.kept k8 (.inr (.inr (Nat.le_refl 0)))
  replace r1b := r1b.kept k8 (.inr (.inr (Nat.le_refl 0)))
  replace r70 := r70.kept k8 (.inr (.inr (Nat.le_refl 0)))
  replace r70b := r70b.kept k8 (.inr (.inr (Nat.le_refl 0)))
  replace A0_0 := k8.cell0 A0_0
  replace A0_1 := k8.cell0 A0_1
  replace A0_2 := k8.cell0 A0_2
  replace A0_3 := k8.cell0 A0_3
  replace A0_4 := k8.cell0 A0_4
  replace A0_5 := k8.cell0 A0_5
  replace A1_0 := k8.cell0 A1_0
  replace A1_1 := k8.cell0 A1_1
  replace A1_2 := k8.cell0 A1_2
  replace A1_3 := k8.cell0 A1_3
  replace A1_4 := k8.cell0 A1_4
  replace A1_5 := k8.cell0 A1_5
  replace K := hide ((unhide K).trans k8)
  have z9 := k8.size
  clear k8
  clear hHeld
  refine hK.out _ _ ?_ (fun hHeld => ?_)
  · exact ⟨A0_0, A0_1, A0_2, A0_3, A0_4, A0_5, A1_0, A1_1, A1_2, A1_3, A1_4, A1_5⟩
  clear hK KK
  try simp only [Act.put, List.getElem_toArray, List.getElem_cons_succ, List.getElem_cons_zero, List.setIfInBounds_toArray, List.set_cons_zero, List.set_cons_succ]
  refine wpAnyH_ready (rs := [4]) (by kernel_rfl) (by simp) ?_
  refine AllReadyH.cons rfl (fun KK hK => ?_) AllReadyH.nil
  simp only [List.getElem_toArray, List.getElem_cons_succ, List.getElem_cons_zero]
  rw [if_pos (by rfl)]
  refine wps2 19 (.tmp 21) (.tmp 23) _ rfl in_spec_IvWithin (.agg #[.bool s0, v70, .int .i64 y0, .bool s0b, v70b, .int .i64 y0b]) (.agg #[.bool s1, v71, .int .i64 y1, .bool s1b, v71b, .int .i64 y1b]) rfl rfl (Calls.mono (ivin_spec s0 y0 gy0.1 gy0.2 s0b y0b gy0b.1 gy0b.2 s1 y1 gy1.1 gy1.2 s1b y1b gy1b.1 gy1b.2 _ r70 r70b r71 r71b) (fun e w' h => (show e = .returned (.bool B0) ∧ Kept 0 0 _ w' from ⟨by rw [h.1, unhide EB0], h.2⟩))) ?_
  rintro e w10 ⟨rfl, k10⟩
  refine ⟨_, rfl, ?_⟩
  replace r0 := r0.kept k10 (.inr (.inr (Nat.le_refl 0)))
  replace r0b := r0b.kept k10 (.inr (.inr (Nat.le_refl 0)))
  replace r1 := r1.kept k10 (.inr (.inr (Nat.le_refl 0)))
  replace r1b := r1b.kept k10 (.inr (.inr (Nat.le_refl 0)))
  replace r70 := r70.kept k10 (.inr (.inr (Nat.le_refl 0)))
  replace r70b := r70b.kept k10 (.inr (.inr (Nat.le_refl 0)))
  replace r71 := r71.kept k10 (.inr (.inr (Nat.le_refl 0)))
  replace r71b := r71b.kept k10 (.inr (.inr (Nat.le_refl 0)))
  replace A0_0 := k10.cell0 A0_0
  replace A0_1 := k10.cell0 A0_1
  replace A0_2 := k10.cell0 A0_2
  replace A0_3 := k10.cell0 A0_3
  replace A0_4 := k10.cell0 A0_4
  replace A0_5 := k10.cell0 A0_5
  replace A1_0 := k10.cell0 A1_0
  replace A1_1 := k10.cell0 A1_1
  replace A1_2 := k10.cell0 A1_2
  replace A1_3 := k10.cell0 A1_3
  replace A1_4 := k10.cell0 A1_4
  replace A1_5 := k10.cell0 A1_5
  replace K := hide ((unhide K).trans k10)
  have z11 := k10.size
  clear k10
  clear hHeld
  refine hK.out _ _ ?_ (fun hHeld => ?_)
  · exact ⟨A0_0, A0_1, A0_2, A0_3, A0_4, A0_5, A1_0, A1_1, A1_2, A1_3, A1_4, A1_5⟩
  clear hK KK
  try simp only [Act.put, List.getElem_toArray, List.getElem_cons_succ, List.getElem_cons_zero, List.setIfInBounds_toArray, List.set_cons_zero, List.set_cons_succ]
  refine wpAnyH_take (i := 5) (oi := _) (v := .bool B0) rfl (by kernel_rfl) (by kernel_rfl) (by kernel_rfl) (fun _ _ _ h => h) (Or.inl ⟨by rfl, ?_⟩) hHeld ?_
  · intro wq hSw
    try dsimp only at hSw
    go_simp
  try simp only [Act.put, List.getElem_toArray, List.getElem_cons_succ, List.getElem_cons_zero, List.setIfInBounds_toArray, List.set_cons_zero, List.set_cons_succ]
  refine wpAnyH_done (by kernel_rfl) ?_ _
  clear hHeld
  clear r70 r70b
  clear r71 r71b
  go_wp2_with fail
  refine (toIv_any (s0) (y0) (s0b) (y0b) _ hn0 hn0b r0 r0b).mono ?_
  rintro e w12 ⟨vx0, vx0b, mmx0, rfl, rx0, rx0b, hmax0, hmbx0, k12⟩
  replace r0 := r0.kept k12 (.inr (.inr (Nat.le_refl 0)))
  replace r0b := r0b.kept k12 (.inr (.inr (Nat.le_refl 0)))
  replace r1 := r1.kept k12 (.inr (.inr (Nat.le_refl 0)))
  replace r1b := r1b.kept k12 (.inr (.inr (Nat.le_refl 0)))
  replace A0_0 := k12.cell0 A0_0
  replace A0_1 := k12.cell0 A0_1
  replace A0_2 := k12.cell0 A0_2
  replace A0_3 := k12.cell0 A0_3
  replace A0_4 := k12.cell0 A0_4
  replace A0_5 := k12.cell0 A0_5
  replace A1_0 := k12.cell0 A1_0
  replace A1_1 := k12.cell0 A1_1
  replace A1_2 := k12.cell0 A1_2
  replace A1_3 := k12.cell0 A1_3
  replace A1_4 := k12.cell0 A1_4
  replace A1_5 := k12.cell0 A1_5
  replace K := hide ((unhide K).trans k12)
  have z13 := k12.size
  clear k12
  obtain ⟨ax0, dx0, hv⟩ := Row.form' rx0
  subst hv
  obtain ⟨ax0b, dx0b, hv⟩ := Row.form' rx0b
  subst hv
  have kn := (Kept.refl 0 0 w12).alloc (.cells #[.bool s0, .slice ax0 z0.length dx0, .int .i64 y0, .bool s0b, .slice ax0b z0b.length dx0b, .int .i64 y0b] 44)
  have cx0_0 : (w12.alloc (.cells #[.bool s0, .slice ax0 z0.length dx0, .int .i64 y0, .bool s0b, .slice ax0b z0b.length dx0b, .int .i64 y0b] 44)).cell? ⟨w12.heap.size, 0, none⟩ = some (.bool s0) := new_cell2 _ _ _ _ _ _ rfl rfl
  have cx0_1 : (w12.alloc (.cells #[.bool s0, .slice ax0 z0.length dx0, .int .i64 y0, .bool s0b, .slice ax0b z0b.length dx0b, .int .i64 y0b] 44)).cell? ⟨w12.heap.size, 1, none⟩ = some (.slice ax0 z0.length dx0) := new_cell2 _ _ _ _ _ _ rfl rfl
  have cx0_2 : (w12.alloc (.cells #[.bool s0, .slice ax0 z0.length dx0, .int .i64 y0, .bool s0b, .slice ax0b z0b.length dx0b, .int .i64 y0b] 44)).cell? ⟨w12.heap.size, 2, none⟩ = some (.int .i64 y0) := new_cell2 _ _ _ _ _ _ rfl rfl
  have cx0_3 : (w12.alloc (.cells #[.bool s0, .slice ax0 z0.length dx0, .int .i64 y0, .bool s0b, .slice ax0b z0b.length dx0b, .int .i64 y0b] 44)).cell? ⟨w12.heap.size, 3, none⟩ = some (.bool s0b) := new_cell2 _ _ _ _ _ _ rfl rfl
  have cx0_4 : (w12.alloc (.cells #[.bool s0, .slice ax0 z0.length dx0, .int .i64 y0, .bool s0b, .slice ax0b z0b.length dx0b, .int .i64 y0b] 44)).cell? ⟨w12.heap.size, 4, none⟩ = some (.slice ax0b z0b.length dx0b) := new_cell2 _ _ _ _ _ _ rfl rfl
  have cx0_5 : (w12.alloc (.cells #[.bool s0, .slice ax0 z0.length dx0, .int .i64 y0, .bool s0b, .slice ax0b z0b.length dx0b, .int .i64 y0b] 44)).cell? ⟨w12.heap.size, 5, none⟩ = some (.int .i64 y0b) := new_cell2 _ _ _ _ _ _ rfl rfl
  have t14 : w12.heap.size + 1 ≤ (w12.alloc (.cells #[.bool s0, .slice ax0 z0.length dx0, .int .i64 y0, .bool s0b, .slice ax0b z0b.length dx0b, .int .i64 y0b] 44)).heap.size := by simp
  replace r0 := r0.kept kn (.inr (.inr (Nat.le_refl 0)))
  replace r0b := r0b.kept kn (.inr (.inr (Nat.le_refl 0)))
  replace r1 := r1.kept kn (.inr (.inr (Nat.le_refl 0)))
  replace r1b := r1b.kept kn (.inr (.inr (Nat.le_refl 0)))
  replace rx0 := rx0.kept kn (.inr (.inr (Nat.le_refl 0)))
  replace rx0b := rx0b.kept kn (.inr (.inr (Nat.le_refl 0)))
  replace A0_0 := kn.cell0 A0_0
  replace A0_1 := kn.cell0 A0_1
  replace A0_2 := kn.cell0 A0_2
  replace A0_3 := kn.cell0 A0_3
  replace A0_4 := kn.cell0 A0_4
  replace A0_5 := kn.cell0 A0_5
  replace A1_0 := kn.cell0 A1_0
  replace A1_1 := kn.cell0 A1_1
  replace A1_2 := kn.cell0 A1_2
  replace A1_3 := kn.cell0 A1_3
  replace A1_4 := kn.cell0 A1_4
  replace A1_5 := kn.cell0 A1_5
  replace K := hide ((unhide K).trans kn)
  have z15 := kn.size
  clear kn
  go_wp2_with fail
  generalize w12.alloc (.cells #[.bool s0, .slice ax0 z0.length dx0, .int .i64 y0, .bool s0b, .slice ax0b z0b.length dx0b, .int .i64 y0b] 44) = wm14 at *
  refine (toIv_any (s1) (y1) (s1b) (y1b) _ hn1 hn1b r1 r1b).mono ?_
  rintro e w16 ⟨vx1, vx1b, mmx1, rfl, rx1, rx1b, hmax1, hmbx1, k16⟩
  replace r0 := r0.kept k16 (.inr (.inr (Nat.le_refl 0)))
  replace r0b := r0b.kept k16 (.inr (.inr (Nat.le_refl 0)))
  replace r1 := r1.kept k16 (.inr (.inr (Nat.le_refl 0)))
  replace r1b := r1b.kept k16 (.inr (.inr (Nat.le_refl 0)))
  replace rx0 := rx0.kept k16 (.inr (.inr (Nat.le_refl 0)))
  replace rx0b := rx0b.kept k16 (.inr (.inr (Nat.le_refl 0)))
  replace A0_0 := k16.cell0 A0_0
  replace A0_1 := k16.cell0 A0_1
  replace A0_2 := k16.cell0 A0_2
  replace A0_3 := k16.cell0 A0_3
  replace A0_4 := k16.cell0 A0_4
  replace A0_5 := k16.cell0 A0_5
  replace A1_0 := k16.cell0 A1_0
  replace A1_1 := k16.cell0 A1_1
  replace A1_2 := k16.cell0 A1_2
  replace A1_3 := k16.cell0 A1_3
  replace A1_4 := k16.cell0 A1_4
  replace A1_5 := k16.cell0 A1_5
  replace cx0_0 := k16.cell0 cx0_0
  replace cx0_1 := k16.cell0 cx0_1
  replace cx0_2 := k16.cell0 cx0_2
  replace cx0_3 := k16.cell0 cx0_3
  replace cx0_4 := k16.cell0 cx0_4
  replace cx0_5 := k16.cell0 cx0_5
  replace K := hide ((unhide K).trans k16)
  have z17 := k16.size
  clear k16
  obtain ⟨ax1, dx1, hv⟩ := Row.form' rx1
  subst hv
  obtain ⟨ax1b, dx1b, hv⟩ := Row.form' rx1b
  subst hv
  have kn := (Kept.refl 0 0 w16).alloc (.cells #[.bool s1, .slice ax1 z1.length dx1, .int .i64 y1, .bool s1b, .slice ax1b z1b.length dx1b, .int .i64 y1b] 44)
  have cx1_0 : (w16.alloc (.cells #[.bool s1, .slice ax1 z1.length dx1, .int .i64 y1, .bool s1b, .slice ax1b z1b.length dx1b, .int .i64 y1b] 44)).cell? ⟨w16.heap.size, 0, none⟩ = some (.bool s1) := new_cell2 _ _ _ _ _ _ rfl rfl
  have cx1_1 : (w16.alloc (.cells #[.bool s1, .slice ax1 z1.length dx1, .int .i64 y1, .bool s1b, .slice ax1b z1b.length dx1b, .int .i64 y1b] 44)).cell? ⟨w16.heap.size, 1, none⟩ = some (.slice ax1 z1.length dx1) := new_cell2 _ _ _ _ _ _ rfl rfl
  have cx1_2 : (w16.alloc (.cells #[.bool s1, .slice ax1 z1.length dx1, .int .i64 y1, .bool s1b, .slice ax1b z1b.length dx1b, .int .i64 y1b] 44)).cell? ⟨w16.heap.size, 2, none⟩ = some (.int .i64 y1) := new_cell2 _ _ _ _ _ _ rfl rfl
  have cx1_3 : (w16.alloc (.cells #[.bool s1, .slice ax1 z1.length dx1, .int .i64 y1, .bool s1b, .slice ax1b z1b.length dx1b, .int .i64 y1b] 44)).cell? ⟨w16.heap.size, 3, none⟩ = some (.bool s1b) := new_cell2 _ _ _ _ _ _ rfl rfl
  have cx1_4 : (w16.alloc (.cells #[.bool s1, .slice ax1 z1.length dx1, .int .i64 y1, .bool s1b, .slice ax1b z1b.length dx1b, .int .i64 y1b] 44)).cell? ⟨w16.heap.size, 4, none⟩ = some (.slice ax1b z1b.length dx1b) := new_cell2 _ _ _ _ _ _ rfl rfl
  have cx1_5 : (w16.alloc (.cells #[.bool s1, .slice ax1 z1.length dx1, .int .i64 y1, .bool s1b, .slice ax1b z1b.length dx1b, .int .i64 y1b] 44)).cell? ⟨w16.heap.size, 5, none⟩ = some (.int .i64 y1b) := new_cell2 _ _ _ _ _ _ rfl rfl
  have t18 : w16.heap.size + 1 ≤ (w16.alloc (.cells #[.bool s1, .slice ax1 z1.length dx1, .int .i64 y1, .bool s1b, .slice ax1b z1b.length dx1b, .int .i64 y1b] 44)).heap.size := by simp
  replace r0 := r0.kept kn (.inr (.inr (Nat.le_refl 0)))
  replace r0b := r0b.kept kn (.inr (.inr (Nat.le_refl 0)))
  replace r1 := r1.kept kn (.inr (.inr (Nat.le_refl 0)))
  replace r1b := r1b.kept kn (.inr (.inr (Nat.le_refl 0)))
  replace rx0 := rx0.kept kn (.inr (.inr (Nat.le_refl 0)))
  replace rx0b := rx0b.kept kn (.inr (.inr (Nat.le_refl 0)))
  replace rx1 := rx1.kept kn (.inr (.inr (Nat.le_refl 0)))
  replace rx1b := rx1b.kept kn (.inr (.inr (Nat.le_refl 0)))
  replace A0_0 := kn.cell0 A0_0
  replace A0_1 := kn.cell0 A0_1
  replace A0_2 := kn.cell0 A0_2
  replace A0_3 := kn.cell0 A0_3
  replace A0_4 := kn.cell0 A0_4
  replace A0_5 := kn.cell0 A0_5
  replace A1_0 := kn.cell0 A1_0
  replace A1_1 := kn.cell0 A1_1
  replace A1_2 := kn.cell0 A1_2
  replace A1_3 := kn.cell0 A1_3
  replace A1_4 := kn.cell0 A1_4
  replace A1_5 := kn.cell0 A1_5
  replace cx0_0 := kn.cell0 cx0_0
  replace cx0_1 := kn.cell0 cx0_1
  replace cx0_2 := kn.cell0 cx0_2
  replace cx0_3 := kn.cell0 cx0_3
  replace cx0_4 := kn.cell0 cx0_4
  replace cx0_5 := kn.cell0 cx0_5
  replace K := hide ((unhide K).trans kn)
  have z19 := kn.size
  clear kn
  go_wp2_with fail
  generalize w16.alloc (.cells #[.bool s1, .slice ax1 z1.length dx1, .int .i64 y1, .bool s1b, .slice ax1b z1b.length dx1b, .int .i64 y1b] 44) = wm18 at *
  have mk := ivin_impl s0 y0 gy0.1 gy0.2 s0b y0b gy0b.1 gy0b.2 s1 y1 gy1.1 gy1.2 s1b y1b gy1b.1 gy1b.2 wm18 rx0 rx0b rx1 rx1b
  simp only [unhide EB0] at mk
  refine (mk).mono ?_
  rintro e w20 ⟨rfl, k20⟩
  replace r0 := r0.kept k20 (.inr (.inr (Nat.le_refl 0)))
  replace r0b := r0b.kept k20 (.inr (.inr (Nat.le_refl 0)))
  replace r1 := r1.kept k20 (.inr (.inr (Nat.le_refl 0)))
  replace r1b := r1b.kept k20 (.inr (.inr (Nat.le_refl 0)))
  replace rx0 := rx0.kept k20 (.inr (.inr (Nat.le_refl 0)))
  replace rx0b := rx0b.kept k20 (.inr (.inr (Nat.le_refl 0)))
  replace rx1 := rx1.kept k20 (.inr (.inr (Nat.le_refl 0)))
  replace rx1b := rx1b.kept k20 (.inr (.inr (Nat.le_refl 0)))
  replace A0_0 := k20.cell0 A0_0
  replace A0_1 := k20.cell0 A0_1
  replace A0_2 := k20.cell0 A0_2
  replace A0_3 := k20.cell0 A0_3
  replace A0_4 := k20.cell0 A0_4
  replace A0_5 := k20.cell0 A0_5
  replace A1_0 := k20.cell0 A1_0
  replace A1_1 := k20.cell0 A1_1
  replace A1_2 := k20.cell0 A1_2
  replace A1_3 := k20.cell0 A1_3
  replace A1_4 := k20.cell0 A1_4
  replace A1_5 := k20.cell0 A1_5
  replace cx0_0 := k20.cell0 cx0_0
  replace cx0_1 := k20.cell0 cx0_1
  replace cx0_2 := k20.cell0 cx0_2
  replace cx0_3 := k20.cell0 cx0_3
  replace cx0_4 := k20.cell0 cx0_4
  replace cx0_5 := k20.cell0 cx0_5
  replace cx1_0 := k20.cell0 cx1_0
  replace cx1_1 := k20.cell0 cx1_1
  replace cx1_2 := k20.cell0 cx1_2
  replace cx1_3 := k20.cell0 cx1_3
  replace cx1_4 := k20.cell0 cx1_4
  replace cx1_5 := k20.cell0 cx1_5
  replace K := hide ((unhide K).trans k20)
  have z21 := k20.size
  clear k20
  clear mk
  go_wp2_with fail
  have kd := (Kept.refl 0 0 w20).drew
  replace r0 := r0.kept kd (.inr (.inr (Nat.le_refl 0)))
  replace r0b := r0b.kept kd (.inr (.inr (Nat.le_refl 0)))
  replace r1 := r1.kept kd (.inr (.inr (Nat.le_refl 0)))
  replace r1b := r1b.kept kd (.inr (.inr (Nat.le_refl 0)))
  replace rx0 := rx0.kept kd (.inr (.inr (Nat.le_refl 0)))
  replace rx0b := rx0b.kept kd (.inr (.inr (Nat.le_refl 0)))
  replace rx1 := rx1.kept kd (.inr (.inr (Nat.le_refl 0)))
  replace rx1b := rx1b.kept kd (.inr (.inr (Nat.le_refl 0)))
  replace A0_0 := kd.cell0 A0_0
  replace A0_1 := kd.cell0 A0_1
  replace A0_2 := kd.cell0 A0_2
  replace A0_3 := kd.cell0 A0_3
  replace A0_4 := kd.cell0 A0_4
  replace A0_5 := kd.cell0 A0_5
  replace A1_0 := kd.cell0 A1_0
  replace A1_1 := kd.cell0 A1_1
  replace A1_2 := kd.cell0 A1_2
  replace A1_3 := kd.cell0 A1_3
  replace A1_4 := kd.cell0 A1_4
  replace A1_5 := kd.cell0 A1_5
  replace cx0_0 := kd.cell0 cx0_0
  replace cx0_1 := kd.cell0 cx0_1
  replace cx0_2 := kd.cell0 cx0_2
  replace cx0_3 := kd.cell0 cx0_3
  replace cx0_4 := kd.cell0 cx0_4
  replace cx0_5 := kd.cell0 cx0_5
  replace cx1_0 := kd.cell0 cx1_0
  replace cx1_1 := kd.cell0 cx1_1
  replace cx1_2 := kd.cell0 cx1_2
  replace cx1_3 := kd.cell0 cx1_3
  replace cx1_4 := kd.cell0 cx1_4
  replace cx1_5 := kd.cell0 cx1_5
  replace K := hide ((unhide K).trans kd)
  have z22 := kd.size
  clear kd
  refine wp_region_held_drew (S := (fun w' => w'.cell? ⟨w.heap.size, 0, none⟩ = some (.bool s0) ∧ w'.cell? ⟨w.heap.size, 1, none⟩ = some (.slice a0 z0.length c0) ∧ w'.cell? ⟨w.heap.size, 2, none⟩ = some (.int .i64 y0) ∧ w'.cell? ⟨w.heap.size, 3, none⟩ = some (.bool s0b) ∧ w'.cell? ⟨w.heap.size, 4, none⟩ = some (.slice a0b z0b.length c0b) ∧ w'.cell? ⟨w.heap.size, 5, none⟩ = some (.int .i64 y0b) ∧ w'.cell? ⟨w12.heap.size, 0, none⟩ = some (.bool s0) ∧ w'.cell? ⟨w12.heap.size, 1, none⟩ = some (.slice ax0 z0.length dx0) ∧ w'.cell? ⟨w12.heap.size, 2, none⟩ = some (.int .i64 y0) ∧ w'.cell? ⟨w12.heap.size, 3, none⟩ = some (.bool s0b) ∧ w'.cell? ⟨w12.heap.size, 4, none⟩ = some (.slice ax0b z0b.length dx0b) ∧ w'.cell? ⟨w12.heap.size, 5, none⟩ = some (.int .i64 y0b))) (by kernel_rfl) ?_ (fun hHeld => ?_)
  · exact ⟨A0_0, A0_1, A0_2, A0_3, A0_4, A0_5, cx0_0, cx0_1, cx0_2, cx0_3, cx0_4, cx0_5⟩
  refine wpAnyH_take (i := 0) (oi := _) (v := .agg #[.bool s0, .slice ax0 z0.length dx0, .int .i64 y0, .bool s0b, .slice ax0b z0b.length dx0b, .int .i64 y0b]) rfl (by kernel_rfl) (by kernel_rfl) (by kernel_rfl) (fun _ _ _ h => h) (Or.inl ⟨by rfl, ?_⟩) hHeld ?_
  · intro wq hSw
    try dsimp only at hSw
    go_simp
  try simp only [Act.put, List.getElem_toArray, List.getElem_cons_succ, List.getElem_cons_zero, List.setIfInBounds_toArray, List.set_cons_zero, List.set_cons_succ]
  refine wpAnyH_take (i := 1) (oi := _) (v := .agg #[.bool s0, .slice a0 z0.length c0, .int .i64 y0, .bool s0b, .slice a0b z0b.length c0b, .int .i64 y0b]) rfl (by kernel_rfl) (by kernel_rfl) (by kernel_rfl) (fun _ _ _ h => h) (Or.inl ⟨by rfl, ?_⟩) hHeld ?_
  · intro wq hSw
    try dsimp only at hSw
    go_simp
  try simp only [Act.put, List.getElem_toArray, List.getElem_cons_succ, List.getElem_cons_zero, List.setIfInBounds_toArray, List.set_cons_zero, List.set_cons_succ]
  refine wpAnyH_ready (rs := [2]) (by kernel_rfl) (by simp) ?_
  refine AllReadyH.cons rfl (fun KK hK => ?_) AllReadyH.nil
  simp only [List.getElem_toArray, List.getElem_cons_succ, List.getElem_cons_zero]
  rw [if_pos (by rfl)]
  refine wps1 14 (.tmp 36) _ rfl in_toV (.agg #[.bool s0, .slice a0 z0.length c0, .int .i64 y0, .bool s0b, .slice a0b z0b.length c0b, .int .i64 y0b]) rfl (toIv_any (s0) (y0) (s0b) (y0b) _ hn0 hn0b r0 r0b) ?_
  rintro e w23 ⟨v80, v80b, mm80, rfl, r80, r80b, hma80, hmb80, k23⟩
  refine ⟨_, rfl, ?_⟩
  replace r0 := r0.kept k23 (.inr (.inr (Nat.le_refl 0)))
  replace r0b := r0b.kept k23 (.inr (.inr (Nat.le_refl 0)))
  replace r1 := r1.kept k23 (.inr (.inr (Nat.le_refl 0)))
  replace r1b := r1b.kept k23 (.inr (.inr (Nat.le_refl 0)))
  replace rx0 := rx0.kept k23 (.inr (.inr (Nat.le_refl 0)))
  replace rx0b := rx0b.kept k23 (.inr (.inr (Nat.le_refl 0)))
  replace rx1 := rx1.kept k23 (.inr (.inr (Nat.le_refl 0)))
  replace rx1b := rx1b.kept k23 (.inr (.inr (Nat.le_refl 0)))
  replace A0_0 := k23.cell0 A0_0
  replace A0_1 := k23.cell0 A0_1
  replace A0_2 := k23.cell0 A0_2
  replace A0_3 := k23.cell0 A0_3
  replace A0_4 := k23.cell0 A0_4
  replace A0_5 := k23.cell0 A0_5
  replace A1_0 := k23.cell0 A1_0
  replace A1_1 := k23.cell0 A1_1
  replace A1_2 := k23.cell0 A1_2
  replace A1_3 := k23.cell0 A1_3
  replace A1_4 := k23.cell0 A1_4
  replace A1_5 := k23.cell0 A1_5
  replace cx0_0 := k23.cell0 cx0_0
  replace cx0_1 := k23.cell0 cx0_1
  replace cx0_2 := k23.cell0 cx0_2
  replace cx0_3 := k23.cell0 cx0_3
  replace cx0_4 := k23.cell0 cx0_4
  replace cx0_5 := k23.cell0 cx0_5
  replace cx1_0 := k23.cell0 cx1_0
  replace cx1_1 := k23.cell0 cx1_1
  replace cx1_2 := k23.cell0 cx1_2
  replace cx1_3 := k23.cell0 cx1_3
  replace cx1_4 := k23.cell0 cx1_4
  replace cx1_5 := k23.cell0 cx1_5
  replace K := hide ((unhide K).trans k23)
  have z24 := k23.size
  clear k23
  clear hHeld
  refine hK.out _ _ ?_ (fun hHeld => ?_)
  · exact ⟨A0_0, A0_1, A0_2, A0_3, A0_4, A0_5, cx0_0, cx0_1, cx0_2, cx0_3, cx0_4, cx0_5⟩
  clear hK KK
  try simp only [Act.put, List.getElem_toArray, List.getElem_cons_succ, List.getElem_cons_zero, List.setIfInBounds_toArray, List.set_cons_zero, List.set_cons_succ]
  refine wpAnyH_ready (rs := [3]) (by kernel_rfl) (by simp) ?_
  refine AllReadyH.cons rfl (fun KK hK => ?_) AllReadyH.nil
  simp only [List.getElem_toArray, List.getElem_cons_succ, List.getElem_cons_zero]
  rw [if_pos (by rfl)]
  refine wps2 16 (.tmp 35) (.tmp 37) _ rfl in_eqV (.agg #[.bool s0, .slice ax0 z0.length dx0, .int .i64 y0, .bool s0b, .slice ax0b z0b.length dx0b, .int .i64 y0b]) (.agg #[.bool s0, v80, .int .i64 y0, .bool s0b, v80b, .int .i64 y0b]) rfl rfl (eqIv_same (s0) (y0) (s0b) (y0b) _ rx0 rx0b r80 r80b) ?_
  rintro e w25 ⟨rfl, k25⟩
  refine ⟨_, rfl, ?_⟩
  replace r0 := r0.kept k25 (.inr (.inr (Nat.le_refl 0)))
  replace r0b := r0b.kept k25 (.inr (.inr (Nat.le_refl 0)))
  replace r1 := r1.kept k25 (.inr (.inr (Nat.le_refl 0)))
  replace r1b := r1b.kept k25 (.inr (.inr (Nat.le_refl 0)))
  replace rx0 := rx0.kept k25 (.inr (.inr (Nat.le_refl 0)))
  replace rx0b := rx0b.kept k25 (.inr (.inr (Nat.le_refl 0)))
  replace rx1 := rx1.kept k25 (.inr (.inr (Nat.le_refl 0)))
  replace rx1b := rx1b.kept k25 (.inr (.inr (Nat.le_refl 0)))
  replace r80 := r80.kept k25 (.inr (.inr (Nat.le_refl 0)))
  replace r80b := r80b.kept k25 (.inr (.inr (Nat.le_refl 0)))
  replace A0_0 := k25.cell0 A0_0
  replace A0_1 := k25.cell0 A0_1
  replace A0_2 := k25.cell0 A0_2
  replace A0_3 := k25.cell0 A0_3
  replace A0_4 := k25.cell0 A0_4
  replace A0_5 := k25.cell0 A0_5
  replace A1_0 := k25.cell0 A1_0
  replace A1_1 := k25.cell0 A1_1
  replace A1_2 := k25.cell0 A1_2
  replace A1_3 := k25.cell0 A1_3
  replace A1_4 := k25.cell0 A1_4
  replace A1_5 := k25.cell0 A1_5
  replace cx0_0 := k25.cell0 cx0_0
  replace cx0_1 := k25.cell0 cx0_1
  replace cx0_2 := k25.cell0 cx0_2
  replace cx0_3 := k25.cell0 cx0_3
  replace cx0_4 := k25.cell0 cx0_4
  replace cx0_5 := k25.cell0 cx0_5
  replace cx1_0 := k25.cell0 cx1_0
  replace cx1_1 := k25.cell0 cx1_1
  replace cx1_2 := k25.cell0 cx1_2
  replace cx1_3 := k25.cell0 cx1_3
  replace cx1_4 := k25.cell0 cx1_4
  replace cx1_5 := k25.cell0 cx1_5
  replace K := hide ((unhide K).trans k25)
  have z26 := k25.size
  clear k25
  clear hHeld
  refine hK.out _ _ ?_ (fun hHeld => ?_)
  · exact ⟨A0_0, A0_1, A0_2, A0_3, A0_4, A0_5, cx0_0, cx0_1, cx0_2, cx0_3, cx0_4, cx0_5⟩
  clear hK KK
  try simp only [Act.put, List.getElem_toArray, List.getElem_cons_succ, List.getElem_cons_zero, List.setIfInBounds_toArray, List.set_cons_zero, List.set_cons_succ]
  refine wpAnyH_take (i := 4) (oi := _) (v := .bool false) rfl (by kernel_rfl) (by kernel_rfl) (by kernel_rfl) (fun _ _ _ h => h) (Or.inl ⟨by rfl, ?_⟩) hHeld ?_
  · intro wq hSw
    try dsimp only at hSw
    go_simp
  try simp only [Act.put, List.getElem_toArray, List.getElem_cons_succ, List.getElem_cons_zero, List.setIfInBounds_toArray, List.set_cons_zero, List.set_cons_succ]
  refine wpAnyH_done (by kernel_rfl) ?_ _
  clear hHeld
  clear r80 r80b
  go_wp2_with fail
  have kd := (Kept.refl 0 0 w25).drew
  replace r0 := r0.kept kd (.inr (.inr (Nat.le_refl 0)))
  replace r0b := r0b.kept kd (.inr (.inr (Nat.le_refl 0)))
  replace r1 := r1.kept kd (.inr (.inr (Nat.le_refl 0)))
  replace r1b := r1b.kept kd (.inr (.inr (Nat.le_refl 0)))
  replace rx0 := rx0.kept kd (.inr (.inr (Nat.le_refl 0)))
  replace rx0b := rx0b.kept kd (.inr (.inr (Nat.le_refl 0)))
  replace rx1 := rx1.kept kd (.inr (.inr (Nat.le_refl 0)))
  replace rx1b := rx1b.kept kd (.inr (.inr (Nat.le_refl 0)))
  replace A0_0 := kd.cell0 A0_0
  replace A0_1 := kd.cell0 A0_1
  replace A0_2 := kd.cell0 A0_2
  replace A0_3 := kd.cell0 A0_3
  replace A0_4 := kd.cell0 A0_4
  replace A0_5 := kd.cell0 A0_5
  replace A1_0 := kd.cell0 A1_0
  replace A1_1 := kd.cell0 A1_1
  replace A1_2 := kd.cell0 A1_2
  replace A1_3 := kd.cell0 A1_3
  replace A1_4 := kd.cell0 A1_4
  replace A1_5 := kd.cell0 A1_5
  replace cx0_0 := kd.cell0 cx0_0
  replace cx0_1 := kd.cell0 cx0_1
  replace cx0_2 := kd.cell0 cx0_2
  replace cx0_3 := kd.cell0 cx0_3
  replace cx0_4 := kd.cell0 cx0_4
  replace cx0_5 := kd.cell0 cx0_5
  replace cx1_0 := kd.cell0 cx1_0
  replace cx1_1 := kd.cell0 cx1_1
  replace cx1_2 := kd.cell0 cx1_2
  replace cx1_3 := kd.cell0 cx1_3
  replace cx1_4 := kd.cell0 cx1_4
  replace cx1_5 := kd.cell0 cx1_5
  replace K := hide ((unhide K).trans kd)
  have z27 := kd.size
  clear kd
  refine wp_region_held_drew (S := (fun w' => w'.cell? ⟨w.heap.size + 1, 0, none⟩ = some (.bool s1) ∧ w'.cell? ⟨w.heap.size + 1, 1, none⟩ = some (.slice a1 z1.length c1) ∧ w'.cell? ⟨w.heap.size + 1, 2, none⟩ = some (.int .i64 y1) ∧ w'.cell? ⟨w.heap.size + 1, 3, none⟩ = some (.bool s1b) ∧ w'.cell? ⟨w.heap.size + 1, 4, none⟩ = some (.slice a1b z1b.length c1b) ∧ w'.cell? ⟨w.heap.size + 1, 5, none⟩ = some (.int .i64 y1b) ∧ w'.cell? ⟨w16.heap.size, 0, none⟩ = some (.bool s1) ∧ w'.cell? ⟨w16.heap.size, 1, none⟩ = some (.slice ax1 z1.length dx1) ∧ w'.cell? ⟨w16.heap.size, 2, none⟩ = some (.int .i64 y1) ∧ w'.cell? ⟨w16.heap.size, 3, none⟩ = some (.bool s1b) ∧ w'.cell? ⟨w16.heap.size, 4, none⟩ = some (.slice ax1b z1b.length dx1b) ∧ w'.cell? ⟨w16.heap.size, 5, none⟩ = some (.int .i64 y1b))) (by kernel_rfl) ?_ (fun hHeld => ?_)
  · exact ⟨A1_0, A1_1, A1_2, A1_3, A1_4, A1_5, cx1_0, cx1_1, cx1_2, cx1_3, cx1_4, cx1_5⟩
  refine wpAnyH_take (i := 0) (oi := _) (v := .agg #[.bool s1, .slice ax1 z1.length dx1, .int .i64 y1, .bool s1b, .slice ax1b z1b.length dx1b, .int .i64 y1b]) rfl (by kernel_rfl) (by kernel_rfl) (by kernel_rfl) (fun _ _ _ h => h) (Or.inl ⟨by rfl, ?_⟩) hHeld ?_
  · intro wq hSw
    try dsimp only at hSw
    go_simp
  try simp only [Act.put, List.getElem_toArray, List.getElem_cons_succ, List.getElem_cons_zero, List.setIfInBounds_toArray, List.set_cons_zero, List.set_cons_succ]
  refine wpAnyH_take (i := 1) (oi := _) (v := .agg #[.bool s1, .slice a1 z1.length c1, .int .i64 y1, .bool s1b, .slice a1b z1b.length c1b, .int .i64 y1b]) rfl (by kernel_rfl) (by kernel_rfl) (by kernel_rfl) (fun _ _ _ h => h) (Or.inl ⟨by rfl, ?_⟩) hHeld ?_
  · intro wq hSw
    try dsimp only at hSw
    go_simp
  try simp only [Act.put, List.getElem_toArray, List.getElem_cons_succ, List.getElem_cons_zero, List.setIfInBounds_toArray, List.set_cons_zero, List.set_cons_succ]
  refine wpAnyH_ready (rs := [2]) (by kernel_rfl) (by simp) ?_
  refine AllReadyH.cons rfl (fun KK hK => ?_) AllReadyH.nil
  simp only [List.getElem_toArray, List.getElem_cons_succ, List.getElem_cons_zero]
  rw [if_pos (by rfl)]
  refine wps1 14 (.tmp 41) _ rfl in_toV (.agg #[.bool s1, .slice a1 z1.length c1, .int .i64 y1, .bool s1b, .slice a1b z1b.length c1b, .int .i64 y1b]) rfl (toIv_any (s1) (y1) (s1b) (y1b) _ hn1 hn1b r1 r1b) ?_
  rintro e w28 ⟨v81, v81b, mm81, rfl, r81, r81b, hma81, hmb81, k28⟩
  refine ⟨_, rfl, ?_⟩
  replace r0 := r0.kept k28 (.inr (.inr (Nat.le_refl 0)))
  replace r0b := r0b.kept k28 (.inr (.inr (Nat.le_refl 0)))
  replace r1 := r1.kept k28 (.inr (.inr (Nat.le_refl 0)))
  replace r1b := r1b.kept k28 (.inr (.inr (Nat.le_refl 0)))
  replace rx0 := rx0.kept k28 (.inr (.inr (Nat.le_refl 0)))
  replace rx0b := rx0b.kept k28 (.inr (.inr (Nat.le_refl 0)))
  replace rx1 := rx1.kept k28 (.inr (.inr (Nat.le_refl 0)))
  replace rx1b := rx1b.kept k28 (.inr (.inr (Nat.le_refl 0)))
  replace A0_0 := k28.cell0 A0_0
  replace A0_1 := k28.cell0 A0_1
  replace A0_2 := k28.cell0 A0_2
  replace A0_3 := k28.cell0 A0_3
  replace A0_4 := k28.cell0 A0_4
  replace A0_5 := k28.cell0 A0_5
  replace A1_0 := k28.cell0 A1_0
  replace A1_1 := k28.cell0 A1_1
  replace A1_2 := k28.cell0 A1_2
  replace A1_3 := k28.cell0 A1_3
  replace A1_4 := k28.cell0 A1_4
  replace A1_5 := k28.cell0 A1_5
  replace cx0_0 := k28.cell0 cx0_0
  replace cx0_1 := k28.cell0 cx0_1
  replace cx0_2 := k28.cell0 cx0_2
  replace cx0_3 := k28.cell0 cx0_3
  replace cx0_4 := k28.cell0 cx0_4
  replace cx0_5 := k28.cell0 cx0_5
  replace cx1_0 := k28.cell0 cx1_0
  replace cx1_1 := k28.cell0 cx1_1
  replace cx1_2 := k28.cell0 cx1_2
  replace cx1_3 := k28.cell0 cx1_3
  replace cx1_4 := k28.cell0 cx1_4
  replace cx1_5 := k28.cell0 cx1_5
  replace K := hide ((unhide K).trans k28)
  have z29 := k28.size
  clear k28
  clear hHeld
  refine hK.out _ _ ?_ (fun hHeld => ?_)
  · exact ⟨A1_0, A1_1, A1_2, A1_3, A1_4, A1_5, cx1_0, cx1_1, cx1_2, cx1_3, cx1_4, cx1_5⟩
  clear hK KK
  try simp only [Act.put, List.getElem_toArray, List.getElem_cons_succ, List.getElem_cons_zero, List.setIfInBounds_toArray, List.set_cons_zero, List.set_cons_succ]
  refine wpAnyH_ready (rs := [3]) (by kernel_rfl) (by simp) ?_
  refine AllReadyH.cons rfl (fun KK hK => ?_) AllReadyH.nil
  simp only [List.getElem_toArray, List.getElem_cons_succ, List.getElem_cons_zero]
  rw [if_pos (by rfl)]
  refine wps2 16 (.tmp 40) (.tmp 42) _ rfl in_eqV (.agg #[.bool s1, .slice ax1 z1.length dx1, .int .i64 y1, .bool s1b, .slice ax1b z1b.length dx1b, .int .i64 y1b]) (.agg #[.bool s1, v81, .int .i64 y1, .bool s1b, v81b, .int .i64 y1b]) rfl rfl (eqIv_same (s1) (y1) (s1b) (y1b) _ rx1 rx1b r81 r81b) ?_
  rintro e w30 ⟨rfl, k30⟩
  refine ⟨_, rfl, ?_⟩
  replace r0 := r0.kept k30 (.inr (.inr (Nat.le_refl 0)))
  replace r0b := r0b.kept k30 (.inr (.inr (Nat.le_refl 0)))
  replace r1 := r1.kept k30 (.inr (.inr (Nat.le_refl 0)))
  replace r1b := r1b.kept k30 (.inr (.inr (Nat.le_refl 0)))
  replace rx0 := rx0.kept k30 (.inr (.inr (Nat.le_refl 0)))
  replace rx0b := rx0b.kept k30 (.inr (.inr (Nat.le_refl 0)))
  replace rx1 := rx1.kept k30 (.inr (.inr (Nat.le_refl 0)))
  replace rx1b := rx1b.kept k30 (.inr (.inr (Nat.le_refl 0)))
  replace r81 := r81.kept k30 (.inr (.inr (Nat.le_refl 0)))
  replace r81b := r81b.kept k30 (.inr (.inr (Nat.le_refl 0)))
  replace A0_0 := k30.cell0 A0_0
  replace A0_1 := k30.cell0 A0_1
  replace A0_2 := k30.cell0 A0_2
  replace A0_3 := k30.cell0 A0_3
  replace A0_4 := k30.cell0 A0_4
  replace A0_5 := k30.cell0 A0_5
  replace A1_0 := k30.cell0 A1_0
  replace A1_1 := k30.cell0 A1_1
  replace A1_2 := k30.cell0 A1_2
  replace A1_3 := k30.cell0 A1_3
  replace A1_4 := k30.cell0 A1_4
  replace A1_5 := k30.cell0 A1_5
  replace cx0_0 := k30.cell0 cx0_0
  replace cx0_1 := k30.cell0 cx0_1
  replace cx0_2 := k30.cell0 cx0_2
  replace cx0_3 := k30.cell0 cx0_3
  replace cx0_4 := k30.cell0 cx0_4
  replace cx0_5 := k30.cell0 cx0_5
  replace cx1_0 := k30.cell0 cx1_0
  replace cx1_1 := k30.cell0 cx1_1
  replace cx1_2 := k30.cell0 cx1_2
  replace cx1_3 := k30.cell0 cx1_3
  replace cx1_4 := k30.cell0 cx1_4
  replace cx1_5 := k30.cell0 cx1_5
  replace K := hide ((unhide K).trans k30)
  have z31 := k30.size
  clear k30
  clear hHeld
  refine hK.out _ _ ?_ (fun hHeld => ?_)
  · exact ⟨A1_0, A1_1, A1_2, A1_3, A1_4, A1_5, cx1_0, cx1_1, cx1_2, cx1_3, cx1_4, cx1_5⟩
  clear hK KK
  try simp only [Act.put, List.getElem_toArray, List.getElem_cons_succ, List.getElem_cons_zero, List.setIfInBounds_toArray, List.set_cons_zero, List.set_cons_succ]
  refine wpAnyH_take (i := 4) (oi := _) (v := .bool false) rfl (by kernel_rfl) (by kernel_rfl) (by kernel_rfl) (fun _ _ _ h => h) (Or.inl ⟨by rfl, ?_⟩) hHeld ?_
  · intro wq hSw
    try dsimp only at hSw
    go_simp
  try simp only [Act.put, List.getElem_toArray, List.getElem_cons_succ, List.getElem_cons_zero, List.setIfInBounds_toArray, List.set_cons_zero, List.set_cons_succ]
  refine wpAnyH_done (by kernel_rfl) ?_ _
  clear hHeld
  clear r81 r81b
  have S0' := unhide S0
  go_wp2_with fail
  go_ret
  exact ⟨rfl, (unhide K).toBelow⟩

end Go.Proofs.Ytondlefojekjeaa
