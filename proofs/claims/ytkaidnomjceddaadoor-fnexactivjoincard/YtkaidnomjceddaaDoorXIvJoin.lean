/-
  The walk of the law FnExactIvJoin: it returns true at every argument.
-/
import Derived.Test.YtkaidnomjceddaaDoorIv5
import Derived.Test.YtkaidnomjceddaaDoorIv6
import Derived.Test.YtkaidnomjceddaaDoorBJ
import Derived.Deep.DeepCutAuto
namespace Go.Proofs.YtkaidnomjceddaaDoor
open Go.RowKit
set_option linter.unusedVariables false
set_option maxRecDepth 8000
set_option linter.unusedSimpArgs false

theorem wf_IvJoin {n : Int} (h : (Lit.int .i64 n).wf = true) : n ≤ 9223372036854775807 ∧ -9223372036854775808 ≤ n := by
  have e : (Lit.int .i64 n).wf = (decide (IntKind.i64.min ≤ n) && decide (n ≤ IntKind.i64.max)) := rfl
  rw [e, show IntKind.i64.min = -9223372036854775808 by decide, show IntKind.i64.max = 9223372036854775807 by decide] at h
  simp at h
  omega

set_option maxHeartbeats 16000000 in
theorem law_IvJoin {u0 : Value} {z0 : List Int} {u0b : Value} {z0b : List Int} {u1 : Value} {z1 : List Int} {u1b : Value} {z1b : List Int} {w : World} (s0 : Bool) (y0 : Int) (r0 : Row .i64 false 0 w.heap.size w u0 z0) (fy0 : (Lit.int .i64 y0).wf = true) (s0b : Bool) (y0b : Int) (r0b : Row .i64 false 0 w.heap.size w u0b z0b) (fy0b : (Lit.int .i64 y0b).wf = true) (s1 : Bool) (y1 : Int) (r1 : Row .i64 false 0 w.heap.size w u1 z1) (fy1 : (Lit.int .i64 y1).wf = true) (s1b : Bool) (y1b : Int) (r1b : Row .i64 false 0 w.heap.size w u1b z1b) (fy1b : (Lit.int .i64 y1b).wf = true) (T : TabB w) :
    Calls Tryd.prog 4 #[.agg #[.bool s0, u0, .int .i64 y0, .bool s0b, u0b, .int .i64 y0b], .agg #[.bool s1, u1, .int .i64 y1, .bool s1b, u1b, .int .i64 y1b]] w fun e w' => e = .returned (.bool true) ∧ Below w.heap.size w w' := by
  have gy0 : y0 ≤ 9223372036854775807 ∧ -9223372036854775808 ≤ y0 := wf_IvJoin fy0
  clear fy0
  have gy0b : y0b ≤ 9223372036854775807 ∧ -9223372036854775808 ≤ y0b := wf_IvJoin fy0b
  clear fy0b
  have gy1 : y1 ≤ 9223372036854775807 ∧ -9223372036854775808 ≤ y1 := wf_IvJoin fy1
  clear fy1
  have gy1b : y1b ≤ 9223372036854775807 ∧ -9223372036854775808 ≤ y1b := wf_IvJoin fy1b
  clear fy1b
  obtain ⟨B1, hB1⟩ : ∃ B, ivC (iokB s0 z0 y0 s0b z0b y0b && iokB s1 z1 y1 s1b z1b y1b) (wval (pk (mnB s0 z0 y0 s1 z1 y1) s0 s1) (pk (mnB s0 z0 y0 s1 z1 y1) z0 z1)) (pk (mnB s0 z0 y0 s1 z1 y1) y0 y1) (wval (pk (mxB s0b z0b y0b s1b z1b y1b) s0b s1b) (pk (mxB s0b z0b y0b s1b z1b y1b) z0b z1b)) (pk (mxB s0b z0b y0b s1b z1b y1b) y0b y1b) = B := ⟨_, rfl⟩
  obtain ⟨L0, hL0⟩ : ∃ L, (if B1 = true then dlm (wval (pk (mnB s0 z0 y0 s1 z1 y1) s0 s1) (pk (mnB s0 z0 y0 s1 z1 y1) z0 z1)) else []) = L := ⟨_, rfl⟩
  obtain ⟨H0, hH0⟩ : ∃ H, (if B1 = true then dex (wval (pk (mnB s0 z0 y0 s1 z1 y1) s0 s1) (pk (mnB s0 z0 y0 s1 z1 y1) z0 z1)) (pk (mnB s0 z0 y0 s1 z1 y1) y0 y1) else 0) = H := ⟨_, rfl⟩
  obtain ⟨G0, hG0⟩ : ∃ G, (B1 && wsg (wval (pk (mnB s0 z0 y0 s1 z1 y1) s0 s1) (pk (mnB s0 z0 y0 s1 z1 y1) z0 z1))) = G := ⟨_, rfl⟩
  obtain ⟨L0b, hL0b⟩ : ∃ L, (if B1 = true then dlm (wval (pk (mxB s0b z0b y0b s1b z1b y1b) s0b s1b) (pk (mxB s0b z0b y0b s1b z1b y1b) z0b z1b)) else []) = L := ⟨_, rfl⟩
  obtain ⟨H0b, hH0b⟩ : ∃ H, (if B1 = true then dex (wval (pk (mxB s0b z0b y0b s1b z1b y1b) s0b s1b) (pk (mxB s0b z0b y0b s1b z1b y1b) z0b z1b)) (pk (mxB s0b z0b y0b s1b z1b y1b) y0b y1b) else 0) = H := ⟨_, rfl⟩
  obtain ⟨G0b, hG0b⟩ : ∃ G, (B1 && wsg (wval (pk (mxB s0b z0b y0b s1b z1b y1b) s0b s1b) (pk (mxB s0b z0b y0b s1b z1b y1b) z0b z1b))) = G := ⟨_, rfl⟩
  have hn'0 : L0.length ≤ 100 := by rw [← hL0]; exact (by rw [← hB1]; exact ivC_len.1)
  have hq0 : L0.length ≤ 1099511627776 := by omega
  have hn'0b : L0b.length ≤ 100 := by rw [← hL0b]; exact (by rw [← hB1]; exact ivC_len.2)
  have hq0b : L0b.length ≤ 1099511627776 := by omega
  have hm0 := r0.len
  unfold maxLen at hm0
  have hm0b := r0b.len
  unfold maxLen at hm0b
  have hm1 := r1.len
  unfold maxLen at hm1
  have hm1b := r1b.len
  unfold maxLen at hm1b
  obtain ⟨Wn, hn0⟩ : ∃ wz, wz = ((w.alloc (.cells #[.bool s0, u0, .int .i64 y0, .bool s0b, u0b, .int .i64 y0b] 30)).alloc (.cells #[.bool s1, u1, .int .i64 y1, .bool s1b, u1b, .int .i64 y1b] 30)) := ⟨_, rfl⟩
  have k0 : Kept 0 0 w Wn := by rw [hn0]; exact (((Kept.refl 0 0 w).alloc _).alloc _)
  have A0_0 : Wn.cell? ⟨w.heap.size, 0, none⟩ = some (.bool s0) := by rw [hn0]; exact old_cell _ (new_cell2 _ _ _ _ _ _ (by simp) rfl)
  have A0_1 : Wn.cell? ⟨w.heap.size, 1, none⟩ = some (u0) := by rw [hn0]; exact old_cell _ (new_cell2 _ _ _ _ _ _ (by simp) rfl)
  have A0_2 : Wn.cell? ⟨w.heap.size, 2, none⟩ = some (.int .i64 y0) := by rw [hn0]; exact old_cell _ (new_cell2 _ _ _ _ _ _ (by simp) rfl)
  have A0_3 : Wn.cell? ⟨w.heap.size, 3, none⟩ = some (.bool s0b) := by rw [hn0]; exact old_cell _ (new_cell2 _ _ _ _ _ _ (by simp) rfl)
  have A0_4 : Wn.cell? ⟨w.heap.size, 4, none⟩ = some (u0b) := by rw [hn0]; exact old_cell _ (new_cell2 _ _ _ _ _ _ (by simp) rfl)
  have A0_5 : Wn.cell? ⟨w.heap.size, 5, none⟩ = some (.int .i64 y0b) := by rw [hn0]; exact old_cell _ (new_cell2 _ _ _ _ _ _ (by simp) rfl)
  have A1_0 : Wn.cell? ⟨w.heap.size + 1, 0, none⟩ = some (.bool s1) := by rw [hn0]; exact new_cell2 _ _ _ _ _ _ (by simp) rfl
  have A1_1 : Wn.cell? ⟨w.heap.size + 1, 1, none⟩ = some (u1) := by rw [hn0]; exact new_cell2 _ _ _ _ _ _ (by simp) rfl
  have A1_2 : Wn.cell? ⟨w.heap.size + 1, 2, none⟩ = some (.int .i64 y1) := by rw [hn0]; exact new_cell2 _ _ _ _ _ _ (by simp) rfl
  have A1_3 : Wn.cell? ⟨w.heap.size + 1, 3, none⟩ = some (.bool s1b) := by rw [hn0]; exact new_cell2 _ _ _ _ _ _ (by simp) rfl
  have A1_4 : Wn.cell? ⟨w.heap.size + 1, 4, none⟩ = some (u1b) := by rw [hn0]; exact new_cell2 _ _ _ _ _ _ (by simp) rfl
  have A1_5 : Wn.cell? ⟨w.heap.size + 1, 5, none⟩ = some (.int .i64 y1b) := by rw [hn0]; exact new_cell2 _ _ _ _ _ _ (by simp) rfl
  subst hn0
  replace r0 := r0.kept k0 (by omega)
  replace r0b := r0b.kept k0 (by omega)
  replace r1 := r1.kept k0 (by omega)
  replace r1b := r1b.kept k0 (by omega)
  have s0 : ((w.alloc (.cells #[.bool s0, u0, .int .i64 y0, .bool s0b, u0b, .int .i64 y0b] 30)).alloc (.cells #[.bool s1, u1, .int .i64 y1, .bool s1b, u1b, .int .i64 y1b] 30)).heap.size = w.heap.size + 2 := by simp
  obtain ⟨a0, c0, hv⟩ := Row.form' r0
  subst hv
  obtain ⟨a0b, c0b, hv⟩ := Row.form' r0b
  subst hv
  obtain ⟨a1, c1, hv⟩ := Row.form' r1
  subst hv
  obtain ⟨a1b, c1b, hv⟩ := Row.form' r1b
  subst hv
  have K := hide (k0)
  clear k0
  have S0 := hide s0
  clear s0
  have EB1 := hide hB1
  have EL0 := hide hL0
  have EH0 := hide hH0
  have EG0 := hide hG0
  have EL0b := hide hL0b
  have EH0b := hide hH0b
  have EG0b := hide hG0b
  clear hB1 hL0 hH0 hG0 hL0b hH0b hG0b
  go_enter Tryd.func4, Tryd.ntmps4
  skip
  go_wp2_with fail
  generalize ((w.alloc (.cells #[.bool s0, .slice a0 z0.length c0, .int .i64 y0, .bool s0b, .slice a0b z0b.length c0b, .int .i64 y0b] 30)).alloc (.cells #[.bool s1, .slice a1 z1.length c1, .int .i64 y1, .bool s1b, .slice a1b z1b.length c1b, .int .i64 y1b] 30)) = W at *
  refine (szIv_any (s0) (y0) (s0b) (y0b) _ (1048576) (by omega) (by omega) r0 r0b).mono ?_
  rintro e w1 ⟨rfl, k1⟩
  replace r0 := r0.kp k1
  replace r0b := r0b.kp k1
  replace r1 := r1.kp k1
  replace r1b := r1b.kp k1
  replace A0_0 := k1.cell0 A0_0
  replace A0_1 := k1.cell0 A0_1
  replace A0_2 := k1.cell0 A0_2
  replace A0_3 := k1.cell0 A0_3
  replace A0_4 := k1.cell0 A0_4
  replace A0_5 := k1.cell0 A0_5
  replace A1_0 := k1.cell0 A1_0
  replace A1_1 := k1.cell0 A1_1
  replace A1_2 := k1.cell0 A1_2
  replace A1_3 := k1.cell0 A1_3
  replace A1_4 := k1.cell0 A1_4
  replace A1_5 := k1.cell0 A1_5
  replace K := hide ((unhide K).trans k1)
  have z2 := k1.size
  clear k1
  by_cases big0 : ((z0.length : Int) + (z0b.length : Int)) ≤ 1048576
  rotate_left
  ·rw [if_neg big0]
   go_wp2_with fail
   go_ret
   exact ⟨rfl, (unhide K).toBelow⟩
  rw [if_pos big0]
  have nb0 : ¬ (1048576 - ((z0.length : Int) + (z0b.length : Int))) < 0 := by omega
  go_wp2_with fail
  refine (szIv_any (s1) (y1) (s1b) (y1b) _ ((1048576 - ((z0.length : Int) + (z0b.length : Int)))) (by omega) (by omega) r1 r1b).mono ?_
  rintro e w3 ⟨rfl, k3⟩
  replace r0 := r0.kp k3
  replace r0b := r0b.kp k3
  replace r1 := r1.kp k3
  replace r1b := r1b.kp k3
  replace A0_0 := k3.cell0 A0_0
  replace A0_1 := k3.cell0 A0_1
  replace A0_2 := k3.cell0 A0_2
  replace A0_3 := k3.cell0 A0_3
  replace A0_4 := k3.cell0 A0_4
  replace A0_5 := k3.cell0 A0_5
  replace A1_0 := k3.cell0 A1_0
  replace A1_1 := k3.cell0 A1_1
  replace A1_2 := k3.cell0 A1_2
  replace A1_3 := k3.cell0 A1_3
  replace A1_4 := k3.cell0 A1_4
  replace A1_5 := k3.cell0 A1_5
  replace K := hide ((unhide K).trans k3)
  have z4 := k3.size
  clear k3
  by_cases big1 : ((z1.length : Int) + (z1b.length : Int)) ≤ (1048576 - ((z0.length : Int) + (z0b.length : Int)))
  rotate_left
  ·rw [if_neg big1]
   go_wp2_with fail
   go_ret
   exact ⟨rfl, (unhide K).toBelow⟩
  rw [if_pos big1]
  have nb1 : ¬ ((1048576 - ((z0.length : Int) + (z0b.length : Int))) - ((z1.length : Int) + (z1b.length : Int))) < 0 := by omega
  have hn0 : z0.length ≤ 1099511627776 := by omega
  have hn0b : z0b.length ≤ 1099511627776 := by omega
  have hn1 : z1.length ≤ 1099511627776 := by omega
  have hn1b : z1b.length ≤ 1099511627776 := by omega
  go_upto_region 8 with fail
  go_cut [6, 7] (fun q0 q1 wx => ∃ X0 v0 v0b, q0 = .pointer (some ⟨X0, 0, none⟩) ∧ q1 = .bool B1 ∧ wx.cell? ⟨X0, 0, none⟩ = some (.bool G0) ∧ wx.cell? ⟨X0, 1, none⟩ = some (v0) ∧ wx.cell? ⟨X0, 2, none⟩ = some (.int .i64 H0) ∧ wx.cell? ⟨X0, 3, none⟩ = some (.bool G0b) ∧ wx.cell? ⟨X0, 4, none⟩ = some (v0b) ∧ wx.cell? ⟨X0, 5, none⟩ = some (.int .i64 H0b) ∧ Row .i64 true w3.heap.size wx.heap.size wx v0 L0 ∧ Row .i64 true w3.heap.size wx.heap.size wx v0b L0b ∧ w3.heap.size ≤ X0 ∧ X0 < wx.heap.size ∧ Kept 0 0 w3 wx)
  case first =>
   have kw := Kept.refl 0 0 w3
   have kd := (Kept.refl 0 0 w3).drew
   replace r0 := r0.kp kd
   replace r0b := r0b.kp kd
   replace r1 := r1.kp kd
   replace r1b := r1b.kp kd
   replace kw := kw.trans kd
   replace A0_0 := kd.cell0 A0_0
   replace A0_1 := kd.cell0 A0_1
   replace A0_2 := kd.cell0 A0_2
   replace A0_3 := kd.cell0 A0_3
   replace A0_4 := kd.cell0 A0_4
   replace A0_5 := kd.cell0 A0_5
   replace A1_0 := kd.cell0 A1_0
   replace A1_1 := kd.cell0 A1_1
   replace A1_2 := kd.cell0 A1_2
   replace A1_3 := kd.cell0 A1_3
   replace A1_4 := kd.cell0 A1_4
   replace A1_5 := kd.cell0 A1_5
   replace K := hide ((unhide K).trans kd)
   have z5 := kd.size
   clear kd
   refine wp_region_held_drew (S := (fun w' => w'.cell? ⟨w.heap.size, 0, none⟩ = some (.bool s0) ∧ w'.cell? ⟨w.heap.size, 1, none⟩ = some (.slice a0 z0.length c0) ∧ w'.cell? ⟨w.heap.size, 2, none⟩ = some (.int .i64 y0) ∧ w'.cell? ⟨w.heap.size, 3, none⟩ = some (.bool s0b) ∧ w'.cell? ⟨w.heap.size, 4, none⟩ = some (.slice a0b z0b.length c0b) ∧ w'.cell? ⟨w.heap.size, 5, none⟩ = some (.int .i64 y0b) ∧ w'.cell? ⟨w.heap.size + 1, 0, none⟩ = some (.bool s1) ∧ w'.cell? ⟨w.heap.size + 1, 1, none⟩ = some (.slice a1 z1.length c1) ∧ w'.cell? ⟨w.heap.size + 1, 2, none⟩ = some (.int .i64 y1) ∧ w'.cell? ⟨w.heap.size + 1, 3, none⟩ = some (.bool s1b) ∧ w'.cell? ⟨w.heap.size + 1, 4, none⟩ = some (.slice a1b z1b.length c1b) ∧ w'.cell? ⟨w.heap.size + 1, 5, none⟩ = some (.int .i64 y1b))) (by kernel_rfl) ?_ (fun hH => ?_)
   ·exact ⟨A0_0, A0_1, A0_2, A0_3, A0_4, A0_5, A1_0, A1_1, A1_2, A1_3, A1_4, A1_5⟩
   generalize w3.drew = wd at *
   refine wpAnyH_take (i := 0) (v := .agg #[.bool s0, .slice a0 z0.length c0, .int .i64 y0, .bool s0b, .slice a0b z0b.length c0b, .int .i64 y0b]) rfl (by kernel_rfl) (by kernel_rfl) (by kernel_rfl) (fun _ _ _ h => h) (Or.inl ⟨by rfl, ?_⟩) hH ?_
   ·intro wq hSw
    try dsimp only at hSw
    go_simp
   try simp only [Act.put, zq1, zq2, zq3, zq4, zq5, zq6]
   refine wpAnyH_take (i := 2) (v := .agg #[.bool s1, .slice a1 z1.length c1, .int .i64 y1, .bool s1b, .slice a1b z1b.length c1b, .int .i64 y1b]) rfl (by kernel_rfl) (by kernel_rfl) (by kernel_rfl) (fun _ _ _ h => h) (Or.inl ⟨by rfl, ?_⟩) hH ?_
   ·intro wq hSw
    try dsimp only at hSw
    go_simp
   try simp only [Act.put, zq1, zq2, zq3, zq4, zq5, zq6]
   refine wpAnyH_ready (rs := [1, 8]) (by kernel_rfl) (by simp) ?_
   refine AllReadyH.cons rfl (fun KK hK => ?_) (AllReadyH.cons rfl (fun KK hK => ?_) AllReadyH.nil)
   ·simp only [zq1, zq2, zq3]
    rw [if_pos (by rfl)]
    refine wps1 7 (.tmp 28) _ rfl in_toV (.agg #[.bool s0, .slice a0 z0.length c0, .int .i64 y0, .bool s0b, .slice a0b z0b.length c0b, .int .i64 y0b]) rfl (toIv_any (s0) (y0) (s0b) (y0b) _ hn0 hn0b r0 r0b) ?_
    rintro e w6 ⟨v70, v70b, mm70, rfl, r70, r70b, hma70, hmb70, k6⟩
    refine ⟨_, rfl, ?_⟩
    replace r0 := r0.kp k6
    replace r0b := r0b.kp k6
    replace r1 := r1.kp k6
    replace r1b := r1b.kp k6
    replace kw := kw.trans k6
    replace A0_0 := k6.cell0 A0_0
    replace A0_1 := k6.cell0 A0_1
    replace A0_2 := k6.cell0 A0_2
    replace A0_3 := k6.cell0 A0_3
    replace A0_4 := k6.cell0 A0_4
    replace A0_5 := k6.cell0 A0_5
    replace A1_0 := k6.cell0 A1_0
    replace A1_1 := k6.cell0 A1_1
    replace A1_2 := k6.cell0 A1_2
    replace A1_3 := k6.cell0 A1_3
    replace A1_4 := k6.cell0 A1_4
    replace A1_5 := k6.cell0 A1_5
    replace K := hide ((unhide K).trans k6)
    have z7 := k6.size
    clear k6
    clear hH
    refine hK.out _ _ ?_ (fun hH => ?_)
    ·exact ⟨A0_0, A0_1, A0_2, A0_3, A0_4, A0_5, A1_0, A1_1, A1_2, A1_3, A1_4, A1_5⟩
    clear hK KK
    try simp only [Act.put, zq1, zq2, zq3, zq4, zq5, zq6]
    refine wpAnyH_ready (rs := [3, 8]) (by kernel_rfl) (by simp) ?_
    refine AllReadyH.cons rfl (fun KK hK => ?_) (AllReadyH.cons rfl (fun KK hK => ?_) AllReadyH.nil)
    ·simp only [zq1, zq2, zq3]
     rw [if_pos (by rfl)]
     refine wps1 7 (.tmp 30) _ rfl in_toV (.agg #[.bool s1, .slice a1 z1.length c1, .int .i64 y1, .bool s1b, .slice a1b z1b.length c1b, .int .i64 y1b]) rfl (toIv_any (s1) (y1) (s1b) (y1b) _ hn1 hn1b r1 r1b) ?_
     rintro e w8 ⟨v71, v71b, mm71, rfl, r71, r71b, hma71, hmb71, k8⟩
     refine ⟨_, rfl, ?_⟩
     replace r0 := r0.kp k8
     replace r0b := r0b.kp k8
     replace r1 := r1.kp k8
     replace r1b := r1b.kp k8
     replace r70 := r70.kp k8
     replace r70b := r70b.kp k8
     replace kw := kw.trans k8
     replace A0_0 := k8.cell0 A0_0
     replace A0_1 := k8.cell0 A0_1
     replace A0_2 := k8.cell0 A0_2
     replace A0_3 := k8.cell0 A0_3
     replace A0_4 := k8.cell0 A0_4
     replace A0_5 := k8.cell0 A0_5
     replace A1_0 := k8.cell0 A1_0
     replace A1_1 := k8.cell0 A1_1
     replace A1_2 := k8.cell0 A1_2
     replace A1_3 := k8.cell0 A1_3
     replace A1_4 := k8.cell0 A1_4
     replace A1_5 := k8.cell0 A1_5
     replace K := hide ((unhide K).trans k8)
     have z9 := k8.size
     clear k8
     clear hH
     refine hK.out _ _ ?_ (fun hH => ?_)
     ·exact ⟨A0_0, A0_1, A0_2, A0_3, A0_4, A0_5, A1_0, A1_1, A1_2, A1_3, A1_4, A1_5⟩
     clear hK KK
     try simp only [Act.put, zq1, zq2, zq3, zq4, zq5, zq6]
     refine wpAnyH_ready (rs := [4, 8]) (by kernel_rfl) (by simp) ?_
     refine AllReadyH.cons rfl (fun KK hK => ?_) (AllReadyH.cons rfl (fun KK hK => ?_) AllReadyH.nil)
     ·simp only [zq1, zq2, zq3]
      rw [if_pos (by rfl)]
      have mk := ivjoin_spec s0 y0 gy0.1 gy0.2 s0b y0b gy0b.1 gy0b.2 s1 y1 gy1.1 gy1.2 s1b y1b gy1b.1 gy1b.2 w8 r70 r70b r71 r71b
      unfold IvAnsS at mk
      simp only [unhide EB1, unhide EL0, unhide EH0, unhide EG0, unhide EL0b, unhide EH0b, unhide EG0b] at mk
      refine wps2 12 (.tmp 29) (.tmp 31) _ rfl in_spec_IvJoin (.agg #[.bool s0, v70, .int .i64 y0, .bool s0b, v70b, .int .i64 y0b]) (.agg #[.bool s1, v71, .int .i64 y1, .bool s1b, v71b, .int .i64 y1b]) rfl rfl mk ?_
      rintro e w10 ⟨v90, v90b, rfl, r90, r90b, k10⟩
      refine ⟨_, rfl, ?_⟩
      clear mk
      replace r0 := r0.kp k10
      replace r0b := r0b.kp k10
      replace r1 := r1.kp k10
      replace r1b := r1b.kp k10
      replace r70 := r70.kp k10
      replace r70b := r70b.kp k10
      replace r71 := r71.kp k10
      replace r71b := r71b.kp k10
      replace kw := kw.trans k10
      replace A0_0 := k10.cell0 A0_0
      replace A0_1 := k10.cell0 A0_1
      replace A0_2 := k10.cell0 A0_2
      replace A0_3 := k10.cell0 A0_3
      replace A0_4 := k10.cell0 A0_4
      replace A0_5 := k10.cell0 A0_5
      replace A1_0 := k10.cell0 A1_0
      replace A1_1 := k10.cell0 A1_1
      replace A1_2 := k10.cell0 A1_2
      replace A1_3 := k10.cell0 A1_3
      replace A1_4 := k10.cell0 A1_4
      replace A1_5 := k10.cell0 A1_5
      replace K := hide ((unhide K).trans k10)
      have z11 := k10.size
      obtain ⟨a90, d90, hv⟩ := Row.form' r90
      subst hv
      obtain ⟨a90b, d90b, hv⟩ := Row.form' r90b
      subst hv
      clear k10
      clear hH
      refine hK.out _ _ ?_ (fun hH => ?_)
      ·exact ⟨A0_0, A0_1, A0_2, A0_3, A0_4, A0_5, A1_0, A1_1, A1_2, A1_3, A1_4, A1_5⟩
      clear hK KK
      try simp only [Act.put, zq1, zq2, zq3, zq4, zq5, zq6]
      refine wpAnyH_take (i := 5) (v := .tuple #[.agg #[.bool G0, .slice a90 L0.length d90, .int .i64 H0, .bool G0b, .slice a90b L0b.length d90b, .int .i64 H0b], .bool B1]) rfl (by kernel_rfl) (by kernel_rfl) (by kernel_rfl) (fun _ _ _ h => h) (Or.inl ⟨by rfl, ?_⟩) hH ?_
      ·intro wq hSw
       try dsimp only at hSw
       go_simp
      try simp only [Act.put, zq1, zq2, zq3, zq4, zq5, zq6]
      refine wpAnyH_take (i := 6) (v := .agg #[.bool G0, .slice a90 L0.length d90, .int .i64 H0, .bool G0b, .slice a90b L0b.length d90b, .int .i64 H0b]) rfl (by kernel_rfl) (by kernel_rfl) (by kernel_rfl) (fun _ _ _ h => h) (Or.inl ⟨by rfl, ?_⟩) hH ?_
      ·intro wq hSw
       try dsimp only at hSw
       go_simp
      try simp only [Act.put, zq1, zq2, zq3, zq4, zq5, zq6]
      refine wpAnyH_take (i := 7) (v := .bool B1) rfl (by kernel_rfl) (by kernel_rfl) (by kernel_rfl) (fun _ _ _ h => h) (Or.inl ⟨by rfl, ?_⟩) hH ?_
      ·intro wq hSw
       try dsimp only at hSw
       go_simp
      try simp only [Act.put, zq1, zq2, zq3, zq4, zq5, zq6]
      refine wpAnyH_ready (rs := [8]) (by kernel_rfl) (by simp) ?_
      refine AllReadyH.cons rfl (fun KK hK => ?_) AllReadyH.nil
      ·simp only [zq1, zq2, zq3]
       rw [if_pos (by rfl)]
       go_simp
       have kn := (Kept.refl 0 0 w10).alloc (.cells #[.bool false, .slice none 0 0, .int .i64 0, .bool false, .slice none 0 0, .int .i64 0] 38)
       replace r0 := r0.kp kn
       replace r0b := r0b.kp kn
       replace r1 := r1.kp kn
       replace r1b := r1b.kp kn
       replace r70 := r70.kp kn
       replace r70b := r70b.kp kn
       replace r71 := r71.kp kn
       replace r71b := r71b.kp kn
       replace r90 := r90.kp kn
       replace r90b := r90b.kp kn
       replace kw := kw.trans kn
       replace A0_0 := kn.cell0 A0_0
       replace A0_1 := kn.cell0 A0_1
       replace A0_2 := kn.cell0 A0_2
       replace A0_3 := kn.cell0 A0_3
       replace A0_4 := kn.cell0 A0_4
       replace A0_5 := kn.cell0 A0_5
       replace A1_0 := kn.cell0 A1_0
       replace A1_1 := kn.cell0 A1_1
       replace A1_2 := kn.cell0 A1_2
       replace A1_3 := kn.cell0 A1_3
       replace A1_4 := kn.cell0 A1_4
       replace A1_5 := kn.cell0 A1_5
       replace K := hide ((unhide K).trans kn)
       have z13 := kn.size
       clear kn
       have szx0_ : w10.heap.size < (w10.alloc (.cells #[.bool false, .slice none 0 0, .int .i64 0, .bool false, .slice none 0 0, .int .i64 0] 38)).heap.size := by simp
       have x0_0 : (w10.alloc (.cells #[.bool false, .slice none 0 0, .int .i64 0, .bool false, .slice none 0 0, .int .i64 0] 38)).cell? ⟨w10.heap.size, 0, none⟩ = some (.bool false) := new_cell2 _ _ _ _ _ _ rfl rfl
       have x0_f0 : (w10.alloc (.cells #[.bool false, .slice none 0 0, .int .i64 0, .bool false, .slice none 0 0, .int .i64 0] 38)).frozen? ⟨w10.heap.size, 0, none⟩ = false := new_loose2 _ _ _ _ _ rfl
       have x0_1 : (w10.alloc (.cells #[.bool false, .slice none 0 0, .int .i64 0, .bool false, .slice none 0 0, .int .i64 0] 38)).cell? ⟨w10.heap.size, 1, none⟩ = some (.slice none 0 0) := new_cell2 _ _ _ _ _ _ rfl rfl
       have x0_f1 : (w10.alloc (.cells #[.bool false, .slice none 0 0, .int .i64 0, .bool false, .slice none 0 0, .int .i64 0] 38)).frozen? ⟨w10.heap.size, 1, none⟩ = false := new_loose2 _ _ _ _ _ rfl
       have x0_2 : (w10.alloc (.cells #[.bool false, .slice none 0 0, .int .i64 0, .bool false, .slice none 0 0, .int .i64 0] 38)).cell? ⟨w10.heap.size, 2, none⟩ = some (.int .i64 0) := new_cell2 _ _ _ _ _ _ rfl rfl
       have x0_f2 : (w10.alloc (.cells #[.bool false, .slice none 0 0, .int .i64 0, .bool false, .slice none 0 0, .int .i64 0] 38)).frozen? ⟨w10.heap.size, 2, none⟩ = false := new_loose2 _ _ _ _ _ rfl
       have x0_3 : (w10.alloc (.cells #[.bool false, .slice none 0 0, .int .i64 0, .bool false, .slice none 0 0, .int .i64 0] 38)).cell? ⟨w10.heap.size, 3, none⟩ = some (.bool false) := new_cell2 _ _ _ _ _ _ rfl rfl
       have x0_f3 : (w10.alloc (.cells #[.bool false, .slice none 0 0, .int .i64 0, .bool false, .slice none 0 0, .int .i64 0] 38)).frozen? ⟨w10.heap.size, 3, none⟩ = false := new_loose2 _ _ _ _ _ rfl
       have x0_4 : (w10.alloc (.cells #[.bool false, .slice none 0 0, .int .i64 0, .bool false, .slice none 0 0, .int .i64 0] 38)).cell? ⟨w10.heap.size, 4, none⟩ = some (.slice none 0 0) := new_cell2 _ _ _ _ _ _ rfl rfl
       have x0_f4 : (w10.alloc (.cells #[.bool false, .slice none 0 0, .int .i64 0, .bool false, .slice none 0 0, .int .i64 0] 38)).frozen? ⟨w10.heap.size, 4, none⟩ = false := new_loose2 _ _ _ _ _ rfl
       have x0_5 : (w10.alloc (.cells #[.bool false, .slice none 0 0, .int .i64 0, .bool false, .slice none 0 0, .int .i64 0] 38)).cell? ⟨w10.heap.size, 5, none⟩ = some (.int .i64 0) := new_cell2 _ _ _ _ _ _ rfl rfl
       have x0_f5 : (w10.alloc (.cells #[.bool false, .slice none 0 0, .int .i64 0, .bool false, .slice none 0 0, .int .i64 0] 38)).frozen? ⟨w10.heap.size, 5, none⟩ = false := new_loose2 _ _ _ _ _ rfl
       clear hH
       refine hK.out _ _ ?_ (fun hH => ?_)
       ·exact ⟨A0_0, A0_1, A0_2, A0_3, A0_4, A0_5, A1_0, A1_1, A1_2, A1_3, A1_4, A1_5⟩
       clear hK KK
       try simp only [Act.put, zq1, zq2, zq3, zq4, zq5, zq6]
       generalize w10.alloc (.cells #[.bool false, .slice none 0 0, .int .i64 0, .bool false, .slice none 0 0, .int .i64 0] 38) = w12 at *
       refine wpAnyH_ready (rs := [9]) (by kernel_rfl) (by simp) ?_
       refine AllReadyH.cons rfl (fun KK hK => ?_) AllReadyH.nil
       simp only [zq1, zq2, zq3]
       rw [if_pos (by rfl)]
       go_simp
       clear hH
       refine hK.out _ _ ?_ (fun hH => ?_)
       ·exact ⟨(cw6 (by have := unhide S0; dsimp only; omega) A0_0), (cw6 (by have := unhide S0; dsimp only; omega) A0_1), (cw6 (by have := unhide S0; dsimp only; omega) A0_2), (cw6 (by have := unhide S0; dsimp only; omega) A0_3), (cw6 (by have := unhide S0; dsimp only; omega) A0_4), (cw6 (by have := unhide S0; dsimp only; omega) A0_5), (cw6 (by have := unhide S0; dsimp only; omega) A1_0), (cw6 (by have := unhide S0; dsimp only; omega) A1_1), (cw6 (by have := unhide S0; dsimp only; omega) A1_2), (cw6 (by have := unhide S0; dsimp only; omega) A1_3), (cw6 (by have := unhide S0; dsimp only; omega) A1_4), (cw6 (by have := unhide S0; dsimp only; omega) A1_5)⟩
       clear hK KK
       try simp only [Act.put, zq1, zq2, zq3, zq4, zq5, zq6]
       refine wpAnyH_take (i := 10) (v := .bool B1) rfl (by kernel_rfl) (by kernel_rfl) (by kernel_rfl) (fun _ _ _ h => h) (Or.inl ⟨by rfl, ?_⟩) hH ?_
       ·intro wq hSw
        try dsimp only at hSw
        go_simp
       try simp only [Act.put, zq1, zq2, zq3, zq4, zq5, zq6]
       refine wpAnyH_done (by kernel_rfl) ?_ _
       clear hH
       go_wp2_with fail
       go_meet
       exact ⟨_, _, _, rfl, rfl, law_setV G0 H0 G0b H0b kw x0_0 x0_1 x0_2 x0_3 x0_4 x0_5 r90 r90b (by omega) (by omega) (by omega) (by omega) (by omega)⟩
     ·simp only [zq1, zq2, zq3]
      rw [if_pos (by rfl)]
      go_simp
      have kn := (Kept.refl 0 0 w8).alloc (.cells #[.bool false, .slice none 0 0, .int .i64 0, .bool false, .slice none 0 0, .int .i64 0] 38)
      replace r0 := r0.kp kn
      replace r0b := r0b.kp kn
      replace r1 := r1.kp kn
      replace r1b := r1b.kp kn
      replace r70 := r70.kp kn
      replace r70b := r70b.kp kn
      replace r71 := r71.kp kn
      replace r71b := r71b.kp kn
      replace kw := kw.trans kn
      replace A0_0 := kn.cell0 A0_0
      replace A0_1 := kn.cell0 A0_1
      replace A0_2 := kn.cell0 A0_2
      replace A0_3 := kn.cell0 A0_3
      replace A0_4 := kn.cell0 A0_4
      replace A0_5 := kn.cell0 A0_5
      replace A1_0 := kn.cell0 A1_0
      replace A1_1 := kn.cell0 A1_1
      replace A1_2 := kn.cell0 A1_2
      replace A1_3 := kn.cell0 A1_3
      replace A1_4 := kn.cell0 A1_4
      replace A1_5 := kn.cell0 A1_5
      replace K := hide ((unhide K).trans kn)
      have z11 := kn.size
      clear kn
      have szx0_ : w8.heap.size < (w8.alloc (.cells #[.bool false, .slice none 0 0, .int .i64 0, .bool false, .slice none 0 0, .int .i64 0] 38)).heap.size := by simp
      have x0_0 : (w8.alloc (.cells #[.bool false, .slice none 0 0, .int .i64 0, .bool false, .slice none 0 0, .int .i64 0] 38)).cell? ⟨w8.heap.size, 0, none⟩ = some (.bool false) := new_cell2 _ _ _ _ _ _ rfl rfl
      have x0_f0 : (w8.alloc (.cells #[.bool false, .slice none 0 0, .int .i64 0, .bool false, .slice none 0 0, .int .i64 0] 38)).frozen? ⟨w8.heap.size, 0, none⟩ = false := new_loose2 _ _ _ _ _ rfl
      have x0_1 : (w8.alloc (.cells #[.bool false, .slice none 0 0, .int .i64 0, .bool false, .slice none 0 0, .int .i64 0] 38)).cell? ⟨w8.heap.size, 1, none⟩ = some (.slice none 0 0) := new_cell2 _ _ _ _ _ _ rfl rfl
      have x0_f1 : (w8.alloc (.cells #[.bool false, .slice none 0 0, .int .i64 0, .bool false, .slice none 0 0, .int .i64 0] 38)).frozen? ⟨w8.heap.size, 1, none⟩ = false := new_loose2 _ _ _ _ _ rfl
      have x0_2 : (w8.alloc (.cells #[.bool false, .slice none 0 0, .int .i64 0, .bool false, .slice none 0 0, .int .i64 0] 38)).cell? ⟨w8.heap.size, 2, none⟩ = some (.int .i64 0) := new_cell2 _ _ _ _ _ _ rfl rfl
      have x0_f2 : (w8.alloc (.cells #[.bool false, .slice none 0 0, .int .i64 0, .bool false, .slice none 0 0, .int .i64 0] 38)).frozen? ⟨w8.heap.size, 2, none⟩ = false := new_loose2 _ _ _ _ _ rfl
      have x0_3 : (w8.alloc (.cells #[.bool false, .slice none 0 0, .int .i64 0, .bool false, .slice none 0 0, .int .i64 0] 38)).cell? ⟨w8.heap.size, 3, none⟩ = some (.bool false) := new_cell2 _ _ _ _ _ _ rfl rfl
      have x0_f3 : (w8.alloc (.cells #[.bool false, .slice none 0 0, .int .i64 0, .bool false, .slice none 0 0, .int .i64 0] 38)).frozen? ⟨w8.heap.size, 3, none⟩ = false := new_loose2 _ _ _ _ _ rfl
      have x0_4 : (w8.alloc (.cells #[.bool false, .slice none 0 0, .int .i64 0, .bool false, .slice none 0 0, .int .i64 0] 38)).cell? ⟨w8.heap.size, 4, none⟩ = some (.slice none 0 0) := new_cell2 _ _ _ _ _ _ rfl rfl
      have x0_f4 : (w8.alloc (.cells #[.bool false, .slice none 0 0, .int .i64 0, .bool false, .slice none 0 0, .int .i64 0] 38)).frozen? ⟨w8.heap.size, 4, none⟩ = false := new_loose2 _ _ _ _ _ rfl
      have x0_5 : (w8.alloc (.cells #[.bool false, .slice none 0 0, .int .i64 0, .bool false, .slice none 0 0, .int .i64 0] 38)).cell? ⟨w8.heap.size, 5, none⟩ = some (.int .i64 0) := new_cell2 _ _ _ _ _ _ rfl rfl
      have x0_f5 : (w8.alloc (.cells #[.bool false, .slice none 0 0, .int .i64 0, .bool false, .slice none 0 0, .int .i64 0] 38)).frozen? ⟨w8.heap.size, 5, none⟩ = false := new_loose2 _ _ _ _ _ rfl
      clear hH
      refine hK.out _ _ ?_ (fun hH => ?_)
      ·exact ⟨A0_0, A0_1, A0_2, A0_3, A0_4, A0_5, A1_0, A1_1, A1_2, A1_3, A1_4, A1_5⟩
      clear hK KK
      try simp only [Act.put, zq1, zq2, zq3, zq4, zq5, zq6]
      generalize w8.alloc (.cells #[.bool false, .slice none 0 0, .int .i64 0, .bool false, .slice none 0 0, .int .i64 0] 38) = w10 at *
      refine wpAnyH_ready (rs := [4]) (by kernel_rfl) (by simp) ?_
      refine AllReadyH.cons rfl (fun KK hK => ?_) AllReadyH.nil
      ·simp only [zq1, zq2, zq3]
       rw [if_pos (by rfl)]
       have mk := ivjoin_spec s0 y0 gy0.1 gy0.2 s0b y0b gy0b.1 gy0b.2 s1 y1 gy1.1 gy1.2 s1b y1b gy1b.1 gy1b.2 w10 r70 r70b r71 r71b
       unfold IvAnsS at mk
       simp only [unhide EB1, unhide EL0, unhide EH0, unhide EG0, unhide EL0b, unhide EH0b, unhide EG0b] at mk
       refine wps2 12 (.tmp 29) (.tmp 31) _ rfl in_spec_IvJoin (.agg #[.bool s0, v70, .int .i64 y0, .bool s0b, v70b, .int .i64 y0b]) (.agg #[.bool s1, v71, .int .i64 y1, .bool s1b, v71b, .int .i64 y1b]) rfl rfl mk ?_
       rintro e w12 ⟨v90, v90b, rfl, r90, r90b, k12⟩
       refine ⟨_, rfl, ?_⟩
       clear mk
       replace r0 := r0.kp k12
       replace r0b := r0b.kp k12
       replace r1 := r1.kp k12
       replace r1b := r1b.kp k12
       replace r70 := r70.kp k12
       replace r70b := r70b.kp k12
       replace r71 := r71.kp k12
       replace r71b := r71b.kp k12
       replace kw := kw.trans k12
       replace x0_f0 := k12.loose0 (zbl x0_0) x0_f0
       replace x0_f1 := k12.loose0 (zbl x0_1) x0_f1
       replace x0_f2 := k12.loose0 (zbl x0_2) x0_f2
       replace x0_f3 := k12.loose0 (zbl x0_3) x0_f3
       replace x0_f4 := k12.loose0 (zbl x0_4) x0_f4
       replace x0_f5 := k12.loose0 (zbl x0_5) x0_f5
       replace A0_0 := k12.cell0 A0_0
       replace A0_1 := k12.cell0 A0_1
       replace A0_2 := k12.cell0 A0_2
       replace A0_3 := k12.cell0 A0_3
       replace A0_4 := k12.cell0 A0_4
       replace A0_5 := k12.cell0 A0_5
       replace A1_0 := k12.cell0 A1_0
       replace A1_1 := k12.cell0 A1_1
       replace A1_2 := k12.cell0 A1_2
       replace A1_3 := k12.cell0 A1_3
       replace A1_4 := k12.cell0 A1_4
       replace A1_5 := k12.cell0 A1_5
       replace x0_0 := k12.cell0 x0_0
       replace x0_1 := k12.cell0 x0_1
       replace x0_2 := k12.cell0 x0_2
       replace x0_3 := k12.cell0 x0_3
       replace x0_4 := k12.cell0 x0_4
       replace x0_5 := k12.cell0 x0_5
       replace K := hide ((unhide K).trans k12)
       have z13 := k12.size
       obtain ⟨a90, d90, hv⟩ := Row.form' r90
       subst hv
       obtain ⟨a90b, d90b, hv⟩ := Row.form' r90b
       subst hv
       clear k12
       clear hH
       refine hK.out _ _ ?_ (fun hH => ?_)
       ·exact ⟨A0_0, A0_1, A0_2, A0_3, A0_4, A0_5, A1_0, A1_1, A1_2, A1_3, A1_4, A1_5⟩
       clear hK KK
       try simp only [Act.put, zq1, zq2, zq3, zq4, zq5, zq6]
       refine wpAnyH_take (i := 5) (v := .tuple #[.agg #[.bool G0, .slice a90 L0.length d90, .int .i64 H0, .bool G0b, .slice a90b L0b.length d90b, .int .i64 H0b], .bool B1]) rfl (by kernel_rfl) (by kernel_rfl) (by kernel_rfl) (fun _ _ _ h => h) (Or.inl ⟨by rfl, ?_⟩) hH ?_
       ·intro wq hSw
        try dsimp only at hSw
        go_simp
       try simp only [Act.put, zq1, zq2, zq3, zq4, zq5, zq6]
       refine wpAnyH_take (i := 6) (v := .agg #[.bool G0, .slice a90 L0.length d90, .int .i64 H0, .bool G0b, .slice a90b L0b.length d90b, .int .i64 H0b]) rfl (by kernel_rfl) (by kernel_rfl) (by kernel_rfl) (fun _ _ _ h => h) (Or.inl ⟨by rfl, ?_⟩) hH ?_
       ·intro wq hSw
        try dsimp only at hSw
        go_simp
       try simp only [Act.put, zq1, zq2, zq3, zq4, zq5, zq6]
       refine wpAnyH_take (i := 7) (v := .bool B1) rfl (by kernel_rfl) (by kernel_rfl) (by kernel_rfl) (fun _ _ _ h => h) (Or.inl ⟨by rfl, ?_⟩) hH ?_
       ·intro wq hSw
        try dsimp only at hSw
        go_simp
       try simp only [Act.put, zq1, zq2, zq3, zq4, zq5, zq6]
       refine wpAnyH_ready (rs := [9]) (by kernel_rfl) (by simp) ?_
       refine AllReadyH.cons rfl (fun KK hK => ?_) AllReadyH.nil
       simp only [zq1, zq2, zq3]
       rw [if_pos (by rfl)]
       go_simp
       clear hH
       refine hK.out _ _ ?_ (fun hH => ?_)
       ·exact ⟨(cw6 (by have := unhide S0; dsimp only; omega) A0_0), (cw6 (by have := unhide S0; dsimp only; omega) A0_1), (cw6 (by have := unhide S0; dsimp only; omega) A0_2), (cw6 (by have := unhide S0; dsimp only; omega) A0_3), (cw6 (by have := unhide S0; dsimp only; omega) A0_4), (cw6 (by have := unhide S0; dsimp only; omega) A0_5), (cw6 (by have := unhide S0; dsimp only; omega) A1_0), (cw6 (by have := unhide S0; dsimp only; omega) A1_1), (cw6 (by have := unhide S0; dsimp only; omega) A1_2), (cw6 (by have := unhide S0; dsimp only; omega) A1_3), (cw6 (by have := unhide S0; dsimp only; omega) A1_4), (cw6 (by have := unhide S0; dsimp only; omega) A1_5)⟩
       clear hK KK
       try simp only [Act.put, zq1, zq2, zq3, zq4, zq5, zq6]
       refine wpAnyH_take (i := 10) (v := .bool B1) rfl (by kernel_rfl) (by kernel_rfl) (by kernel_rfl) (fun _ _ _ h => h) (Or.inl ⟨by rfl, ?_⟩) hH ?_
       ·intro wq hSw
        try dsimp only at hSw
        go_simp
       try simp only [Act.put, zq1, zq2, zq3, zq4, zq5, zq6]
       refine wpAnyH_done (by kernel_rfl) ?_ _
       clear hH
       go_wp2_with fail
       go_meet
       exact ⟨_, _, _, rfl, rfl, law_setV G0 H0 G0b H0b kw x0_0 x0_1 x0_2 x0_3 x0_4 x0_5 r90 r90b (by omega) (by omega) (by omega) (by omega) (by omega)⟩
    ·simp only [zq1, zq2, zq3]
     rw [if_pos (by rfl)]
     go_simp
     have kn := (Kept.refl 0 0 w6).alloc (.cells #[.bool false, .slice none 0 0, .int .i64 0, .bool false, .slice none 0 0, .int .i64 0] 38)
     replace r0 := r0.kp kn
     replace r0b := r0b.kp kn
     replace r1 := r1.kp kn
     replace r1b := r1b.kp kn
     replace r70 := r70.kp kn
     replace r70b := r70b.kp kn
     replace kw := kw.trans kn
     replace A0_0 := kn.cell0 A0_0
     replace A0_1 := kn.cell0 A0_1
     replace A0_2 := kn.cell0 A0_2
     replace A0_3 := kn.cell0 A0_3
     replace A0_4 := kn.cell0 A0_4
     replace A0_5 := kn.cell0 A0_5
     replace A1_0 := kn.cell0 A1_0
     replace A1_1 := kn.cell0 A1_1
     replace A1_2 := kn.cell0 A1_2
     replace A1_3 := kn.cell0 A1_3
     replace A1_4 := kn.cell0 A1_4
     replace A1_5 := kn.cell0 A1_5
     replace K := hide ((unhide K).trans kn)
     have z9 := kn.size
     clear kn
     have szx0_ : w6.heap.size < (w6.alloc (.cells #[.bool false, .slice none 0 0, .int .i64 0, .bool false, .slice none 0 0, .int .i64 0] 38)).heap.size := by simp
     have x0_0 : (w6.alloc (.cells #[.bool false, .slice none 0 0, .int .i64 0, .bool false, .slice none 0 0, .int .i64 0] 38)).cell? ⟨w6.heap.size, 0, none⟩ = some (.bool false) := new_cell2 _ _ _ _ _ _ rfl rfl
     have x0_f0 : (w6.alloc (.cells #[.bool false, .slice none 0 0, .int .i64 0, .bool false, .slice none 0 0, .int .i64 0] 38)).frozen? ⟨w6.heap.size, 0, none⟩ = false := new_loose2 _ _ _ _ _ rfl
     have x0_1 : (w6.alloc (.cells #[.bool false, .slice none 0 0, .int .i64 0, .bool false, .slice none 0 0, .int .i64 0] 38)).cell? ⟨w6.heap.size, 1, none⟩ = some (.slice none 0 0) := new_cell2 _ _ _ _ _ _ rfl rfl
     have x0_f1 : (w6.alloc (.cells #[.bool false, .slice none 0 0, .int .i64 0, .bool false, .slice none 0 0, .int .i64 0] 38)).frozen? ⟨w6.heap.size, 1, none⟩ = false := new_loose2 _ _ _ _ _ rfl
     have x0_2 : (w6.alloc (.cells #[.bool false, .slice none 0 0, .int .i64 0, .bool false, .slice none 0 0, .int .i64 0] 38)).cell? ⟨w6.heap.size, 2, none⟩ = some (.int .i64 0) := new_cell2 _ _ _ _ _ _ rfl rfl
     have x0_f2 : (w6.alloc (.cells #[.bool false, .slice none 0 0, .int .i64 0, .bool false, .slice none 0 0, .int .i64 0] 38)).frozen? ⟨w6.heap.size, 2, none⟩ = false := new_loose2 _ _ _ _ _ rfl
     have x0_3 : (w6.alloc (.cells #[.bool false, .slice none 0 0, .int .i64 0, .bool false, .slice none 0 0, .int .i64 0] 38)).cell? ⟨w6.heap.size, 3, none⟩ = some (.bool false) := new_cell2 _ _ _ _ _ _ rfl rfl
     have x0_f3 : (w6.alloc (.cells #[.bool false, .slice none 0 0, .int .i64 0, .bool false, .slice none 0 0, .int .i64 0] 38)).frozen? ⟨w6.heap.size, 3, none⟩ = false := new_loose2 _ _ _ _ _ rfl
     have x0_4 : (w6.alloc (.cells #[.bool false, .slice none 0 0, .int .i64 0, .bool false, .slice none 0 0, .int .i64 0] 38)).cell? ⟨w6.heap.size, 4, none⟩ = some (.slice none 0 0) := new_cell2 _ _ _ _ _ _ rfl rfl
     have x0_f4 : (w6.alloc (.cells #[.bool false, .slice none 0 0, .int .i64 0, .bool false, .slice none 0 0, .int .i64 0] 38)).frozen? ⟨w6.heap.size, 4, none⟩ = false := new_loose2 _ _ _ _ _ rfl
     have x0_5 : (w6.alloc (.cells #[.bool false, .slice none 0 0, .int .i64 0, .bool false, .slice none 0 0, .int .i64 0] 38)).cell? ⟨w6.heap.size, 5, none⟩ = some (.int .i64 0) := new_cell2 _ _ _ _ _ _ rfl rfl
     have x0_f5 : (w6.alloc (.cells #[.bool false, .slice none 0 0, .int .i64 0, .bool false, .slice none 0 0, .int .i64 0] 38)).frozen? ⟨w6.heap.size, 5, none⟩ = false := new_loose2 _ _ _ _ _ rfl
     clear hH
     refine hK.out _ _ ?_ (fun hH => ?_)
     ·exact ⟨A0_0, A0_1, A0_2, A0_3, A0_4, A0_5, A1_0, A1_1, A1_2, A1_3, A1_4, A1_5⟩
     clear hK KK
     try simp only [Act.put, zq1, zq2, zq3, zq4, zq5, zq6]
     generalize w6.alloc (.cells #[.bool false, .slice none 0 0, .int .i64 0, .bool false, .slice none 0 0, .int .i64 0] 38) = w8 at *
     refine wpAnyH_ready (rs := [3]) (by kernel_rfl) (by simp) ?_
     refine AllReadyH.cons rfl (fun KK hK => ?_) AllReadyH.nil
     ·simp only [zq1, zq2, zq3]
      rw [if_pos (by rfl)]
      refine wps1 7 (.tmp 30) _ rfl in_toV (.agg #[.bool s1, .slice a1 z1.length c1, .int .i64 y1, .bool s1b, .slice a1b z1b.length c1b, .int .i64 y1b]) rfl (toIv_any (s1) (y1) (s1b) (y1b) _ hn1 hn1b r1 r1b) ?_
      rintro e w10 ⟨v71, v71b, mm71, rfl, r71, r71b, hma71, hmb71, k10⟩
      refine ⟨_, rfl, ?_⟩
      replace r0 := r0.kp k10
      replace r0b := r0b.kp k10
      replace r1 := r1.kp k10
      replace r1b := r1b.kp k10
      replace r70 := r70.kp k10
      replace r70b := r70b.kp k10
      replace kw := kw.trans k10
      replace x0_f0 := k10.loose0 (zbl x0_0) x0_f0
      replace x0_f1 := k10.loose0 (zbl x0_1) x0_f1
      replace x0_f2 := k10.loose0 (zbl x0_2) x0_f2
      replace x0_f3 := k10.loose0 (zbl x0_3) x0_f3
      replace x0_f4 := k10.loose0 (zbl x0_4) x0_f4
      replace x0_f5 := k10.loose0 (zbl x0_5) x0_f5
      replace A0_0 := k10.cell0 A0_0
      replace A0_1 := k10.cell0 A0_1
      replace A0_2 := k10.cell0 A0_2
      replace A0_3 := k10.cell0 A0_3
      replace A0_4 := k10.cell0 A0_4
      replace A0_5 := k10.cell0 A0_5
      replace A1_0 := k10.cell0 A1_0
      replace A1_1 := k10.cell0 A1_1
      replace A1_2 := k10.cell0 A1_2
      replace A1_3 := k10.cell0 A1_3
      replace A1_4 := k10.cell0 A1_4
      replace A1_5 := k10.cell0 A1_5
      replace x0_0 := k10.cell0 x0_0
      replace x0_1 := k10.cell0 x0_1
      replace x0_2 := k10.cell0 x0_2
      replace x0_3 := k10.cell0 x0_3
      replace x0_4 := k10.cell0 x0_4
      replace x0_5 := k10.cell0 x0_5
      replace K := hide ((unhide K).trans k10)
      have z11 := k10.size
      clear k10
      clear hH
      refine hK.out _ _ ?_ (fun hH => ?_)
      ·exact ⟨A0_0, A0_1, A0_2, A0_3, A0_4, A0_5, A1_0, A1_1, A1_2, A1_3, A1_4, A1_5⟩
      clear hK KK
      try simp only [Act.put, zq1, zq2, zq3, zq4, zq5, zq6]
      refine wpAnyH_ready (rs := [4]) (by kernel_rfl) (by simp) ?_
      refine AllReadyH.cons rfl (fun KK hK => ?_) AllReadyH.nil
      ·simp only [zq1, zq2, zq3]
       rw [if_pos (by rfl)]
       have mk := ivjoin_spec s0 y0 gy0.1 gy0.2 s0b y0b gy0b.1 gy0b.2 s1 y1 gy1.1 gy1.2 s1b y1b gy1b.1 gy1b.2 w10 r70 r70b r71 r71b
       unfold IvAnsS at mk
       simp only [unhide EB1, unhide EL0, unhide EH0, unhide EG0, unhide EL0b, unhide EH0b, unhide EG0b] at mk
       refine wps2 12 (.tmp 29) (.tmp 31) _ rfl in_spec_IvJoin (.agg #[.bool s0, v70, .int .i64 y0, .bool s0b, v70b, .int .i64 y0b]) (.agg #[.bool s1, v71, .int .i64 y1, .bool s1b, v71b, .int .i64 y1b]) rfl rfl mk ?_
       rintro e w12 ⟨v90, v90b, rfl, r90, r90b, k12⟩
       refine ⟨_, rfl, ?_⟩
       clear mk
       replace r0 := r0.kp k12
       replace r0b := r0b.kp k12
       replace r1 := r1.kp k12
       replace r1b := r1b.kp k12
       replace r70 := r70.kp k12
       replace r70b := r70b.kp k12
       replace r71 := r71.kp k12
       replace r71b := r71b.kp k12
       replace kw := kw.trans k12
       replace x0_f0 := k12.loose0 (zbl x0_0) x0_f0
       replace x0_f1 := k12.loose0 (zbl x0_1) x0_f1
       replace x0_f2 := k12.loose0 (zbl x0_2) x0_f2
       replace x0_f3 := k12.loose0 (zbl x0_3) x0_f3
       replace x0_f4 := k12.loose0 (zbl x0_4) x0_f4
       replace x0_f5 := k12.loose0 (zbl x0_5) x0_f5
       replace A0_0 := k12.cell0 A0_0
       replace A0_1 := k12.cell0 A0_1
       replace A0_2 := k12.cell0 A0_2
       replace A0_3 := k12.cell0 A0_3
       replace A0_4 := k12.cell0 A0_4
       replace A0_5 := k12.cell0 A0_5
       replace A1_0 := k12.cell0 A1_0
       replace A1_1 := k12.cell0 A1_1
       replace A1_2 := k12.cell0 A1_2
       replace A1_3 := k12.cell0 A1_3
       replace A1_4 := k12.cell0 A1_4
       replace A1_5 := k12.cell0 A1_5
       replace x0_0 := k12.cell0 x0_0
       replace x0_1 := k12.cell0 x0_1
       replace x0_2 := k12.cell0 x0_2
       replace x0_3 := k12.cell0 x0_3
       replace x0_4 := k12.cell0 x0_4
       replace x0_5 := k12.cell0 x0_5
       replace K := hide ((unhide K).trans k12)
       have z13 := k12.size
       obtain ⟨a90, d90, hv⟩ := Row.form' r90
       subst hv
       obtain ⟨a90b, d90b, hv⟩ := Row.form' r90b
       subst hv
       clear k12
       clear hH
       refine hK.out _ _ ?_ (fun hH => ?_)
       ·exact ⟨A0_0, A0_1, A0_2, A0_3, A0_4, A0_5, A1_0, A1_1, A1_2, A1_3, A1_4, A1_5⟩
       clear hK KK
       try simp only [Act.put, zq1, zq2, zq3, zq4, zq5, zq6]
       refine wpAnyH_take (i := 5) (v := .tuple #[.agg #[.bool G0, .slice a90 L0.length d90, .int .i64 H0, .bool G0b, .slice a90b L0b.length d90b, .int .i64 H0b], .bool B1]) rfl (by kernel_rfl) (by kernel_rfl) (by kernel_rfl) (fun _ _ _ h => h) (Or.inl ⟨by rfl, ?_⟩) hH ?_
       ·intro wq hSw
        try dsimp only at hSw
        go_simp
       try simp only [Act.put, zq1, zq2, zq3, zq4, zq5, zq6]
       refine wpAnyH_take (i := 6) (v := .agg #[.bool G0, .slice a90 L0.length d90, .int .i64 H0, .bool G0b, .slice a90b L0b.length d90b, .int .i64 H0b]) rfl (by kernel_rfl) (by kernel_rfl) (by kernel_rfl) (fun _ _ _ h => h) (Or.inl ⟨by rfl, ?_⟩) hH ?_
       ·intro wq hSw
        try dsimp only at hSw
        go_simp
       try simp only [Act.put, zq1, zq2, zq3, zq4, zq5, zq6]
       refine wpAnyH_take (i := 7) (v := .bool B1) rfl (by kernel_rfl) (by kernel_rfl) (by kernel_rfl) (fun _ _ _ h => h) (Or.inl ⟨by rfl, ?_⟩) hH ?_
       ·intro wq hSw
        try dsimp only at hSw
        go_simp
       try simp only [Act.put, zq1, zq2, zq3, zq4, zq5, zq6]
       refine wpAnyH_ready (rs := [9]) (by kernel_rfl) (by simp) ?_
       refine AllReadyH.cons rfl (fun KK hK => ?_) AllReadyH.nil
       simp only [zq1, zq2, zq3]
       rw [if_pos (by rfl)]
       go_simp
       clear hH
       refine hK.out _ _ ?_ (fun hH => ?_)
       ·exact ⟨(cw6 (by have := unhide S0; dsimp only; omega) A0_0), (cw6 (by have := unhide S0; dsimp only; omega) A0_1), (cw6 (by have := unhide S0; dsimp only; omega) A0_2), (cw6 (by have := unhide S0; dsimp only; omega) A0_3), (cw6 (by have := unhide S0; dsimp only; omega) A0_4), (cw6 (by have := unhide S0; dsimp only; omega) A0_5), (cw6 (by have := unhide S0; dsimp only; omega) A1_0), (cw6 (by have := unhide S0; dsimp only; omega) A1_1), (cw6 (by have := unhide S0; dsimp only; omega) A1_2), (cw6 (by have := unhide S0; dsimp only; omega) A1_3), (cw6 (by have := unhide S0; dsimp only; omega) A1_4), (cw6 (by have := unhide S0; dsimp only; omega) A1_5)⟩
       clear hK KK
       try simp only [Act.put, zq1, zq2, zq3, zq4, zq5, zq6]
       refine wpAnyH_take (i := 10) (v := .bool B1) rfl (by kernel_rfl) (by kernel_rfl) (by kernel_rfl) (fun _ _ _ h => h) (Or.inl ⟨by rfl, ?_⟩) hH ?_
       ·intro wq hSw
        try dsimp only at hSw
        go_simp
       try simp only [Act.put, zq1, zq2, zq3, zq4, zq5, zq6]
       refine wpAnyH_done (by kernel_rfl) ?_ _
       clear hH
       go_wp2_with fail
       go_meet
       exact ⟨_, _, _, rfl, rfl, law_setV G0 H0 G0b H0b kw x0_0 x0_1 x0_2 x0_3 x0_4 x0_5 r90 r90b (by omega) (by omega) (by omega) (by omega) (by omega)⟩
   ·simp only [zq1, zq2, zq3]
    rw [if_pos (by rfl)]
    go_simp
    have kn := (Kept.refl 0 0 wd).alloc (.cells #[.bool false, .slice none 0 0, .int .i64 0, .bool false, .slice none 0 0, .int .i64 0] 38)
    replace r0 := r0.kp kn
    replace r0b := r0b.kp kn
    replace r1 := r1.kp kn
    replace r1b := r1b.kp kn
    replace kw := kw.trans kn
    replace A0_0 := kn.cell0 A0_0
    replace A0_1 := kn.cell0 A0_1
    replace A0_2 := kn.cell0 A0_2
    replace A0_3 := kn.cell0 A0_3
    replace A0_4 := kn.cell0 A0_4
    replace A0_5 := kn.cell0 A0_5
    replace A1_0 := kn.cell0 A1_0
    replace A1_1 := kn.cell0 A1_1
    replace A1_2 := kn.cell0 A1_2
    replace A1_3 := kn.cell0 A1_3
    replace A1_4 := kn.cell0 A1_4
    replace A1_5 := kn.cell0 A1_5
    replace K := hide ((unhide K).trans kn)
    have z7 := kn.size
    clear kn
    have szx0_ : wd.heap.size < (wd.alloc (.cells #[.bool false, .slice none 0 0, .int .i64 0, .bool false, .slice none 0 0, .int .i64 0] 38)).heap.size := by simp
    have x0_0 : (wd.alloc (.cells #[.bool false, .slice none 0 0, .int .i64 0, .bool false, .slice none 0 0, .int .i64 0] 38)).cell? ⟨wd.heap.size, 0, none⟩ = some (.bool false) := new_cell2 _ _ _ _ _ _ rfl rfl
    have x0_f0 : (wd.alloc (.cells #[.bool false, .slice none 0 0, .int .i64 0, .bool false, .slice none 0 0, .int .i64 0] 38)).frozen? ⟨wd.heap.size, 0, none⟩ = false := new_loose2 _ _ _ _ _ rfl
    have x0_1 : (wd.alloc (.cells #[.bool false, .slice none 0 0, .int .i64 0, .bool false, .slice none 0 0, .int .i64 0] 38)).cell? ⟨wd.heap.size, 1, none⟩ = some (.slice none 0 0) := new_cell2 _ _ _ _ _ _ rfl rfl
    have x0_f1 : (wd.alloc (.cells #[.bool false, .slice none 0 0, .int .i64 0, .bool false, .slice none 0 0, .int .i64 0] 38)).frozen? ⟨wd.heap.size, 1, none⟩ = false := new_loose2 _ _ _ _ _ rfl
    have x0_2 : (wd.alloc (.cells #[.bool false, .slice none 0 0, .int .i64 0, .bool false, .slice none 0 0, .int .i64 0] 38)).cell? ⟨wd.heap.size, 2, none⟩ = some (.int .i64 0) := new_cell2 _ _ _ _ _ _ rfl rfl
    have x0_f2 : (wd.alloc (.cells #[.bool false, .slice none 0 0, .int .i64 0, .bool false, .slice none 0 0, .int .i64 0] 38)).frozen? ⟨wd.heap.size, 2, none⟩ = false := new_loose2 _ _ _ _ _ rfl
    have x0_3 : (wd.alloc (.cells #[.bool false, .slice none 0 0, .int .i64 0, .bool false, .slice none 0 0, .int .i64 0] 38)).cell? ⟨wd.heap.size, 3, none⟩ = some (.bool false) := new_cell2 _ _ _ _ _ _ rfl rfl
    have x0_f3 : (wd.alloc (.cells #[.bool false, .slice none 0 0, .int .i64 0, .bool false, .slice none 0 0, .int .i64 0] 38)).frozen? ⟨wd.heap.size, 3, none⟩ = false := new_loose2 _ _ _ _ _ rfl
    have x0_4 : (wd.alloc (.cells #[.bool false, .slice none 0 0, .int .i64 0, .bool false, .slice none 0 0, .int .i64 0] 38)).cell? ⟨wd.heap.size, 4, none⟩ = some (.slice none 0 0) := new_cell2 _ _ _ _ _ _ rfl rfl
    have x0_f4 : (wd.alloc (.cells #[.bool false, .slice none 0 0, .int .i64 0, .bool false, .slice none 0 0, .int .i64 0] 38)).frozen? ⟨wd.heap.size, 4, none⟩ = false := new_loose2 _ _ _ _ _ rfl
    have x0_5 : (wd.alloc (.cells #[.bool false, .slice none 0 0, .int .i64 0, .bool false, .slice none 0 0, .int .i64 0] 38)).cell? ⟨wd.heap.size, 5, none⟩ = some (.int .i64 0) := new_cell2 _ _ _ _ _ _ rfl rfl
    have x0_f5 : (wd.alloc (.cells #[.bool false, .slice none 0 0, .int .i64 0, .bool false, .slice none 0 0, .int .i64 0] 38)).frozen? ⟨wd.heap.size, 5, none⟩ = false := new_loose2 _ _ _ _ _ rfl
    clear hH
    refine hK.out _ _ ?_ (fun hH => ?_)
    ·exact ⟨A0_0, A0_1, A0_2, A0_3, A0_4, A0_5, A1_0, A1_1, A1_2, A1_3, A1_4, A1_5⟩
    clear hK KK
    try simp only [Act.put, zq1, zq2, zq3, zq4, zq5, zq6]
    generalize wd.alloc (.cells #[.bool false, .slice none 0 0, .int .i64 0, .bool false, .slice none 0 0, .int .i64 0] 38) = w6 at *
    refine wpAnyH_ready (rs := [1]) (by kernel_rfl) (by simp) ?_
    refine AllReadyH.cons rfl (fun KK hK => ?_) AllReadyH.nil
    ·simp only [zq1, zq2, zq3]
     rw [if_pos (by rfl)]
     refine wps1 7 (.tmp 28) _ rfl in_toV (.agg #[.bool s0, .slice a0 z0.length c0, .int .i64 y0, .bool s0b, .slice a0b z0b.length c0b, .int .i64 y0b]) rfl (toIv_any (s0) (y0) (s0b) (y0b) _ hn0 hn0b r0 r0b) ?_
     rintro e w8 ⟨v70, v70b, mm70, rfl, r70, r70b, hma70, hmb70, k8⟩
     refine ⟨_, rfl, ?_⟩
     replace r0 := r0.kp k8
     replace r0b := r0b.kp k8
     replace r1 := r1.kp k8
     replace r1b := r1b.kp k8
     replace kw := kw.trans k8
     replace x0_f0 := k8.loose0 (zbl x0_0) x0_f0
     replace x0_f1 := k8.loose0 (zbl x0_1) x0_f1
     replace x0_f2 := k8.loose0 (zbl x0_2) x0_f2
     replace x0_f3 := k8.loose0 (zbl x0_3) x0_f3
     replace x0_f4 := k8.loose0 (zbl x0_4) x0_f4
     replace x0_f5 := k8.loose0 (zbl x0_5) x0_f5
     replace A0_0 := k8.cell0 A0_0
     replace A0_1 := k8.cell0 A0_1
     replace A0_2 := k8.cell0 A0_2
     replace A0_3 := k8.cell0 A0_3
     replace A0_4 := k8.cell0 A0_4
     replace A0_5 := k8.cell0 A0_5
     replace A1_0 := k8.cell0 A1_0
     replace A1_1 := k8.cell0 A1_1
     replace A1_2 := k8.cell0 A1_2
     replace A1_3 := k8.cell0 A1_3
     replace A1_4 := k8.cell0 A1_4
     replace A1_5 := k8.cell0 A1_5
     replace x0_0 := k8.cell0 x0_0
     replace x0_1 := k8.cell0 x0_1
     replace x0_2 := k8.cell0 x0_2
     replace x0_3 := k8.cell0 x0_3
     replace x0_4 := k8.cell0 x0_4
     replace x0_5 := k8.cell0 x0_5
     replace K := hide ((unhide K).trans k8)
     have z9 := k8.size
     clear k8
     clear hH
     refine hK.out _ _ ?_ (fun hH => ?_)
     ·exact ⟨A0_0, A0_1, A0_2, A0_3, A0_4, A0_5, A1_0, A1_1, A1_2, A1_3, A1_4, A1_5⟩
     clear hK KK
     try simp only [Act.put, zq1, zq2, zq3, zq4, zq5, zq6]
     refine wpAnyH_ready (rs := [3]) (by kernel_rfl) (by simp) ?_
     refine AllReadyH.cons rfl (fun KK hK => ?_) AllReadyH.nil
     ·simp only [zq1, zq2, zq3]
      rw [if_pos (by rfl)]
      refine wps1 7 (.tmp 30) _ rfl in_toV (.agg #[.bool s1, .slice a1 z1.length c1, .int .i64 y1, .bool s1b, .slice a1b z1b.length c1b, .int .i64 y1b]) rfl (toIv_any (s1) (y1) (s1b) (y1b) _ hn1 hn1b r1 r1b) ?_
      rintro e w10 ⟨v71, v71b, mm71, rfl, r71, r71b, hma71, hmb71, k10⟩
      refine ⟨_, rfl, ?_⟩
      replace r0 := r0.kp k10
      replace r0b := r0b.kp k10
      replace r1 := r1.kp k10
      replace r1b := r1b.kp k10
      replace r70 := r70.kp k10
      replace r70b := r70b.kp k10
      replace kw := kw.trans k10
      replace x0_f0 := k10.loose0 (zbl x0_0) x0_f0
      replace x0_f1 := k10.loose0 (zbl x0_1) x0_f1
      replace x0_f2 := k10.loose0 (zbl x0_2) x0_f2
      replace x0_f3 := k10.loose0 (zbl x0_3) x0_f3
      replace x0_f4 := k10.loose0 (zbl x0_4) x0_f4
      replace x0_f5 := k10.loose0 (zbl x0_5) x0_f5
      replace A0_0 := k10.cell0 A0_0
      replace A0_1 := k10.cell0 A0_1
      replace A0_2 := k10.cell0 A0_2
      replace A0_3 := k10.cell0 A0_3
      replace A0_4 := k10.cell0 A0_4
      replace A0_5 := k10.cell0 A0_5
      replace A1_0 := k10.cell0 A1_0
      replace A1_1 := k10.cell0 A1_1
      replace A1_2 := k10.cell0 A1_2
      replace A1_3 := k10.cell0 A1_3
      replace A1_4 := k10.cell0 A1_4
      replace A1_5 := k10.cell0 A1_5
      replace x0_0 := k10.cell0 x0_0
      replace x0_1 := k10.cell0 x0_1
      replace x0_2 := k10.cell0 x0_2
      replace x0_3 := k10.cell0 x0_3
      replace x0_4 := k10.cell0 x0_4
      replace x0_5 := k10.cell0 x0_5
      replace K := hide ((unhide K).trans k10)
      have z11 := k10.size
      clear k10
      clear hH
      refine hK.out _ _ ?_ (fun hH => ?_)
      ·exact ⟨A0_0, A0_1, A0_2, A0_3, A0_4, A0_5, A1_0, A1_1, A1_2, A1_3, A1_4, A1_5⟩
      clear hK KK
      try simp only [Act.put, zq1, zq2, zq3, zq4, zq5, zq6]
      refine wpAnyH_ready (rs := [4]) (by kernel_rfl) (by simp) ?_
      refine AllReadyH.cons rfl (fun KK hK => ?_) AllReadyH.nil
      ·simp only [zq1, zq2, zq3]
       rw [if_pos (by rfl)]
       have mk := ivjoin_spec s0 y0 gy0.1 gy0.2 s0b y0b gy0b.1 gy0b.2 s1 y1 gy1.1 gy1.2 s1b y1b gy1b.1 gy1b.2 w10 r70 r70b r71 r71b
       unfold IvAnsS at mk
       simp only [unhide EB1, unhide EL0, unhide EH0, unhide EG0, unhide EL0b, unhide EH0b, unhide EG0b] at mk
       refine wps2 12 (.tmp 29) (.tmp 31) _ rfl in_spec_IvJoin (.agg #[.bool s0, v70, .int .i64 y0, .bool s0b, v70b, .int .i64 y0b]) (.agg #[.bool s1, v71, .int .i64 y1, .bool s1b, v71b, .int .i64 y1b]) rfl rfl mk ?_
       rintro e w12 ⟨v90, v90b, rfl, r90, r90b, k12⟩
       refine ⟨_, rfl, ?_⟩
       clear mk
       replace r0 := r0.kp k12
       replace r0b := r0b.kp k12
       replace r1 := r1.kp k12
       replace r1b := r1b.kp k12
       replace r70 := r70.kp k12
       replace r70b := r70b.kp k12
       replace r71 := r71.kp k12
       replace r71b := r71b.kp k12
       replace kw := kw.trans k12
       replace x0_f0 := k12.loose0 (zbl x0_0) x0_f0
       replace x0_f1 := k12.loose0 (zbl x0_1) x0_f1
       replace x0_f2 := k12.loose0 (zbl x0_2) x0_f2
       replace x0_f3 := k12.loose0 (zbl x0_3) x0_f3
       replace x0_f4 := k12.loose0 (zbl x0_4) x0_f4
       replace x0_f5 := k12.loose0 (zbl x0_5) x0_f5
       replace A0_0 := k12.cell0 A0_0
       replace A0_1 := k12.cell0 A0_1
       replace A0_2 := k12.cell0 A0_2
       replace A0_3 := k12.cell0 A0_3
       replace A0_4 := k12.cell0 A0_4
       replace A0_5 := k12.cell0 A0_5
       replace A1_0 := k12.cell0 A1_0
       replace A1_1 := k12.cell0 A1_1
       replace A1_2 := k12.cell0 A1_2
       replace A1_3 := k12.cell0 A1_3
       replace A1_4 := k12.cell0 A1_4
       replace A1_5 := k12.cell0 A1_5
       replace x0_0 := k12.cell0 x0_0
       replace x0_1 := k12.cell0 x0_1
       replace x0_2 := k12.cell0 x0_2
       replace x0_3 := k12.cell0 x0_3
       replace x0_4 := k12.cell0 x0_4
       replace x0_5 := k12.cell0 x0_5
       replace K := hide ((unhide K).trans k12)
       have z13 := k12.size
       obtain ⟨a90, d90, hv⟩ := Row.form' r90
       subst hv
       obtain ⟨a90b, d90b, hv⟩ := Row.form' r90b
       subst hv
       clear k12
       clear hH
       refine hK.out _ _ ?_ (fun hH => ?_)
       ·exact ⟨A0_0, A0_1, A0_2, A0_3, A0_4, A0_5, A1_0, A1_1, A1_2, A1_3, A1_4, A1_5⟩
       clear hK KK
       try simp only [Act.put, zq1, zq2, zq3, zq4, zq5, zq6]
       refine wpAnyH_take (i := 5) (v := .tuple #[.agg #[.bool G0, .slice a90 L0.length d90, .int .i64 H0, .bool G0b, .slice a90b L0b.length d90b, .int .i64 H0b], .bool B1]) rfl (by kernel_rfl) (by kernel_rfl) (by kernel_rfl) (fun _ _ _ h => h) (Or.inl ⟨by rfl, ?_⟩) hH ?_
       ·intro wq hSw
        try dsimp only at hSw
        go_simp
       try simp only [Act.put, zq1, zq2, zq3, zq4, zq5, zq6]
       refine wpAnyH_take (i := 6) (v := .agg #[.bool G0, .slice a90 L0.length d90, .int .i64 H0, .bool G0b, .slice a90b L0b.length d90b, .int .i64 H0b]) rfl (by kernel_rfl) (by kernel_rfl) (by kernel_rfl) (fun _ _ _ h => h) (Or.inl ⟨by rfl, ?_⟩) hH ?_
       ·intro wq hSw
        try dsimp only at hSw
        go_simp
       try simp only [Act.put, zq1, zq2, zq3, zq4, zq5, zq6]
       refine wpAnyH_take (i := 7) (v := .bool B1) rfl (by kernel_rfl) (by kernel_rfl) (by kernel_rfl) (fun _ _ _ h => h) (Or.inl ⟨by rfl, ?_⟩) hH ?_
       ·intro wq hSw
        try dsimp only at hSw
        go_simp
       try simp only [Act.put, zq1, zq2, zq3, zq4, zq5, zq6]
       refine wpAnyH_ready (rs := [9]) (by kernel_rfl) (by simp) ?_
       refine AllReadyH.cons rfl (fun KK hK => ?_) AllReadyH.nil
       simp only [zq1, zq2, zq3]
       rw [if_pos (by rfl)]
       go_simp
       clear hH
       refine hK.out _ _ ?_ (fun hH => ?_)
       ·exact ⟨(cw6 (by have := unhide S0; dsimp only; omega) A0_0), (cw6 (by have := unhide S0; dsimp only; omega) A0_1), (cw6 (by have := unhide S0; dsimp only; omega) A0_2), (cw6 (by have := unhide S0; dsimp only; omega) A0_3), (cw6 (by have := unhide S0; dsimp only; omega) A0_4), (cw6 (by have := unhide S0; dsimp only; omega) A0_5), (cw6 (by have := unhide S0; dsimp only; omega) A1_0), (cw6 (by have := unhide S0; dsimp only; omega) A1_1), (cw6 (by have := unhide S0; dsimp only; omega) A1_2), (cw6 (by have := unhide S0; dsimp only; omega) A1_3), (cw6 (by have := unhide S0; dsimp only; omega) A1_4), (cw6 (by have := unhide S0; dsimp only; omega) A1_5)⟩
       clear hK KK
       try simp only [Act.put, zq1, zq2, zq3, zq4, zq5, zq6]
       refine wpAnyH_take (i := 10) (v := .bool B1) rfl (by kernel_rfl) (by kernel_rfl) (by kernel_rfl) (fun _ _ _ h => h) (Or.inl ⟨by rfl, ?_⟩) hH ?_
       ·intro wq hSw
        try dsimp only at hSw
        go_simp
       try simp only [Act.put, zq1, zq2, zq3, zq4, zq5, zq6]
       refine wpAnyH_done (by kernel_rfl) ?_ _
       clear hH
       go_wp2_with fail
       go_meet
       exact ⟨_, _, _, rfl, rfl, law_setV G0 H0 G0b H0b kw x0_0 x0_1 x0_2 x0_3 x0_4 x0_5 r90 r90b (by omega) (by omega) (by omega) (by omega) (by omega)⟩
  case rest =>
   obtain ⟨Xw0, vw0, vw0b, rfl, rfl, cw0_0, cw0_1, cw0_2, cw0_3, cw0_4, cw0_5, rw0, rw0b, hXw0, hYw0, kk⟩ := hcut
   replace r0 := r0.kp kk
   replace r0b := r0b.kp kk
   replace r1 := r1.kp kk
   replace r1b := r1b.kp kk
   replace A0_0 := kk.cell0 A0_0
   replace A0_1 := kk.cell0 A0_1
   replace A0_2 := kk.cell0 A0_2
   replace A0_3 := kk.cell0 A0_3
   replace A0_4 := kk.cell0 A0_4
   replace A0_5 := kk.cell0 A0_5
   replace A1_0 := kk.cell0 A1_0
   replace A1_1 := kk.cell0 A1_1
   replace A1_2 := kk.cell0 A1_2
   replace A1_3 := kk.cell0 A1_3
   replace A1_4 := kk.cell0 A1_4
   replace A1_5 := kk.cell0 A1_5
   replace K := hide ((unhide K).trans kk)
   have z5 := kk.size
   clear kk
   obtain ⟨aw0, dw0, hv⟩ := Row.form' rw0
   subst hv
   obtain ⟨aw0b, dw0b, hv⟩ := Row.form' rw0b
   subst hv
   generalize hwc : wc = we6 at *
   clear hwc
   go_wp2_with fail
   refine (toIv_any (s0) (y0) (s0b) (y0b) _ hn0 hn0b r0 r0b).mono ?_
   rintro e w7 ⟨vx0, vx0b, mmx0, rfl, rx0, rx0b, hmax0, hmbx0, k7⟩
   replace r0 := r0.kp k7
   replace r0b := r0b.kp k7
   replace r1 := r1.kp k7
   replace r1b := r1b.kp k7
   replace rw0 := rw0.kp k7
   replace rw0b := rw0b.kp k7
   replace A0_0 := k7.cell0 A0_0
   replace A0_1 := k7.cell0 A0_1
   replace A0_2 := k7.cell0 A0_2
   replace A0_3 := k7.cell0 A0_3
   replace A0_4 := k7.cell0 A0_4
   replace A0_5 := k7.cell0 A0_5
   replace A1_0 := k7.cell0 A1_0
   replace A1_1 := k7.cell0 A1_1
   replace A1_2 := k7.cell0 A1_2
   replace A1_3 := k7.cell0 A1_3
   replace A1_4 := k7.cell0 A1_4
   replace A1_5 := k7.cell0 A1_5
   replace cw0_0 := k7.cell0 cw0_0
   replace cw0_1 := k7.cell0 cw0_1
   replace cw0_2 := k7.cell0 cw0_2
   replace cw0_3 := k7.cell0 cw0_3
   replace cw0_4 := k7.cell0 cw0_4
   replace cw0_5 := k7.cell0 cw0_5
   replace K := hide ((unhide K).trans k7)
   have z8 := k7.size
   clear k7
   obtain ⟨ax0, dx0, hv⟩ := Row.form' rx0
   subst hv
   obtain ⟨ax0b, dx0b, hv⟩ := Row.form' rx0b
   subst hv
   have kn := (Kept.refl 0 0 w7).alloc (.cells #[.bool s0, .slice ax0 z0.length dx0, .int .i64 y0, .bool s0b, .slice ax0b z0b.length dx0b, .int .i64 y0b] 38)
   have cx0_0 : (w7.alloc (.cells #[.bool s0, .slice ax0 z0.length dx0, .int .i64 y0, .bool s0b, .slice ax0b z0b.length dx0b, .int .i64 y0b] 38)).cell? ⟨w7.heap.size, 0, none⟩ = some (.bool s0) := new_cell2 _ _ _ _ _ _ rfl rfl
   have cx0_1 : (w7.alloc (.cells #[.bool s0, .slice ax0 z0.length dx0, .int .i64 y0, .bool s0b, .slice ax0b z0b.length dx0b, .int .i64 y0b] 38)).cell? ⟨w7.heap.size, 1, none⟩ = some (.slice ax0 z0.length dx0) := new_cell2 _ _ _ _ _ _ rfl rfl
   have cx0_2 : (w7.alloc (.cells #[.bool s0, .slice ax0 z0.length dx0, .int .i64 y0, .bool s0b, .slice ax0b z0b.length dx0b, .int .i64 y0b] 38)).cell? ⟨w7.heap.size, 2, none⟩ = some (.int .i64 y0) := new_cell2 _ _ _ _ _ _ rfl rfl
   have cx0_3 : (w7.alloc (.cells #[.bool s0, .slice ax0 z0.length dx0, .int .i64 y0, .bool s0b, .slice ax0b z0b.length dx0b, .int .i64 y0b] 38)).cell? ⟨w7.heap.size, 3, none⟩ = some (.bool s0b) := new_cell2 _ _ _ _ _ _ rfl rfl
   have cx0_4 : (w7.alloc (.cells #[.bool s0, .slice ax0 z0.length dx0, .int .i64 y0, .bool s0b, .slice ax0b z0b.length dx0b, .int .i64 y0b] 38)).cell? ⟨w7.heap.size, 4, none⟩ = some (.slice ax0b z0b.length dx0b) := new_cell2 _ _ _ _ _ _ rfl rfl
   have cx0_5 : (w7.alloc (.cells #[.bool s0, .slice ax0 z0.length dx0, .int .i64 y0, .bool s0b, .slice ax0b z0b.length dx0b, .int .i64 y0b] 38)).cell? ⟨w7.heap.size, 5, none⟩ = some (.int .i64 y0b) := new_cell2 _ _ _ _ _ _ rfl rfl
   have t9 : w7.heap.size + 1 ≤ (w7.alloc (.cells #[.bool s0, .slice ax0 z0.length dx0, .int .i64 y0, .bool s0b, .slice ax0b z0b.length dx0b, .int .i64 y0b] 38)).heap.size := by simp
   replace r0 := r0.kp kn
   replace r0b := r0b.kp kn
   replace r1 := r1.kp kn
   replace r1b := r1b.kp kn
   replace rw0 := rw0.kp kn
   replace rw0b := rw0b.kp kn
   replace rx0 := rx0.kp kn
   replace rx0b := rx0b.kp kn
   replace A0_0 := kn.cell0 A0_0
   replace A0_1 := kn.cell0 A0_1
   replace A0_2 := kn.cell0 A0_2
   replace A0_3 := kn.cell0 A0_3
   replace A0_4 := kn.cell0 A0_4
   replace A0_5 := kn.cell0 A0_5
   replace A1_0 := kn.cell0 A1_0
   replace A1_1 := kn.cell0 A1_1
   replace A1_2 := kn.cell0 A1_2
   replace A1_3 := kn.cell0 A1_3
   replace A1_4 := kn.cell0 A1_4
   replace A1_5 := kn.cell0 A1_5
   replace cw0_0 := kn.cell0 cw0_0
   replace cw0_1 := kn.cell0 cw0_1
   replace cw0_2 := kn.cell0 cw0_2
   replace cw0_3 := kn.cell0 cw0_3
   replace cw0_4 := kn.cell0 cw0_4
   replace cw0_5 := kn.cell0 cw0_5
   replace K := hide ((unhide K).trans kn)
   have z10 := kn.size
   clear kn
   go_wp2_with fail
   generalize w7.alloc (.cells #[.bool s0, .slice ax0 z0.length dx0, .int .i64 y0, .bool s0b, .slice ax0b z0b.length dx0b, .int .i64 y0b] 38) = wm9 at *
   refine (toIv_any (s1) (y1) (s1b) (y1b) _ hn1 hn1b r1 r1b).mono ?_
   rintro e w11 ⟨vx1, vx1b, mmx1, rfl, rx1, rx1b, hmax1, hmbx1, k11⟩
   replace r0 := r0.kp k11
   replace r0b := r0b.kp k11
   replace r1 := r1.kp k11
   replace r1b := r1b.kp k11
   replace rw0 := rw0.kp k11
   replace rw0b := rw0b.kp k11
   replace rx0 := rx0.kp k11
   replace rx0b := rx0b.kp k11
   replace A0_0 := k11.cell0 A0_0
   replace A0_1 := k11.cell0 A0_1
   replace A0_2 := k11.cell0 A0_2
   replace A0_3 := k11.cell0 A0_3
   replace A0_4 := k11.cell0 A0_4
   replace A0_5 := k11.cell0 A0_5
   replace A1_0 := k11.cell0 A1_0
   replace A1_1 := k11.cell0 A1_1
   replace A1_2 := k11.cell0 A1_2
   replace A1_3 := k11.cell0 A1_3
   replace A1_4 := k11.cell0 A1_4
   replace A1_5 := k11.cell0 A1_5
   replace cw0_0 := k11.cell0 cw0_0
   replace cw0_1 := k11.cell0 cw0_1
   replace cw0_2 := k11.cell0 cw0_2
   replace cw0_3 := k11.cell0 cw0_3
   replace cw0_4 := k11.cell0 cw0_4
   replace cw0_5 := k11.cell0 cw0_5
   replace cx0_0 := k11.cell0 cx0_0
   replace cx0_1 := k11.cell0 cx0_1
   replace cx0_2 := k11.cell0 cx0_2
   replace cx0_3 := k11.cell0 cx0_3
   replace cx0_4 := k11.cell0 cx0_4
   replace cx0_5 := k11.cell0 cx0_5
   replace K := hide ((unhide K).trans k11)
   have z12 := k11.size
   clear k11
   obtain ⟨ax1, dx1, hv⟩ := Row.form' rx1
   subst hv
   obtain ⟨ax1b, dx1b, hv⟩ := Row.form' rx1b
   subst hv
   have kn := (Kept.refl 0 0 w11).alloc (.cells #[.bool s1, .slice ax1 z1.length dx1, .int .i64 y1, .bool s1b, .slice ax1b z1b.length dx1b, .int .i64 y1b] 38)
   have cx1_0 : (w11.alloc (.cells #[.bool s1, .slice ax1 z1.length dx1, .int .i64 y1, .bool s1b, .slice ax1b z1b.length dx1b, .int .i64 y1b] 38)).cell? ⟨w11.heap.size, 0, none⟩ = some (.bool s1) := new_cell2 _ _ _ _ _ _ rfl rfl
   have cx1_1 : (w11.alloc (.cells #[.bool s1, .slice ax1 z1.length dx1, .int .i64 y1, .bool s1b, .slice ax1b z1b.length dx1b, .int .i64 y1b] 38)).cell? ⟨w11.heap.size, 1, none⟩ = some (.slice ax1 z1.length dx1) := new_cell2 _ _ _ _ _ _ rfl rfl
   have cx1_2 : (w11.alloc (.cells #[.bool s1, .slice ax1 z1.length dx1, .int .i64 y1, .bool s1b, .slice ax1b z1b.length dx1b, .int .i64 y1b] 38)).cell? ⟨w11.heap.size, 2, none⟩ = some (.int .i64 y1) := new_cell2 _ _ _ _ _ _ rfl rfl
   have cx1_3 : (w11.alloc (.cells #[.bool s1, .slice ax1 z1.length dx1, .int .i64 y1, .bool s1b, .slice ax1b z1b.length dx1b, .int .i64 y1b] 38)).cell? ⟨w11.heap.size, 3, none⟩ = some (.bool s1b) := new_cell2 _ _ _ _ _ _ rfl rfl
   have cx1_4 : (w11.alloc (.cells #[.bool s1, .slice ax1 z1.length dx1, .int .i64 y1, .bool s1b, .slice ax1b z1b.length dx1b, .int .i64 y1b] 38)).cell? ⟨w11.heap.size, 4, none⟩ = some (.slice ax1b z1b.length dx1b) := new_cell2 _ _ _ _ _ _ rfl rfl
   have cx1_5 : (w11.alloc (.cells #[.bool s1, .slice ax1 z1.length dx1, .int .i64 y1, .bool s1b, .slice ax1b z1b.length dx1b, .int .i64 y1b] 38)).cell? ⟨w11.heap.size, 5, none⟩ = some (.int .i64 y1b) := new_cell2 _ _ _ _ _ _ rfl rfl
   have t13 : w11.heap.size + 1 ≤ (w11.alloc (.cells #[.bool s1, .slice ax1 z1.length dx1, .int .i64 y1, .bool s1b, .slice ax1b z1b.length dx1b, .int .i64 y1b] 38)).heap.size := by simp
   replace r0 := r0.kp kn
   replace r0b := r0b.kp kn
   replace r1 := r1.kp kn
   replace r1b := r1b.kp kn
   replace rw0 := rw0.kp kn
   replace rw0b := rw0b.kp kn
   replace rx0 := rx0.kp kn
   replace rx0b := rx0b.kp kn
   replace rx1 := rx1.kp kn
   replace rx1b := rx1b.kp kn
   replace A0_0 := kn.cell0 A0_0
   replace A0_1 := kn.cell0 A0_1
   replace A0_2 := kn.cell0 A0_2
   replace A0_3 := kn.cell0 A0_3
   replace A0_4 := kn.cell0 A0_4
   replace A0_5 := kn.cell0 A0_5
   replace A1_0 := kn.cell0 A1_0
   replace A1_1 := kn.cell0 A1_1
   replace A1_2 := kn.cell0 A1_2
   replace A1_3 := kn.cell0 A1_3
   replace A1_4 := kn.cell0 A1_4
   replace A1_5 := kn.cell0 A1_5
   replace cw0_0 := kn.cell0 cw0_0
   replace cw0_1 := kn.cell0 cw0_1
   replace cw0_2 := kn.cell0 cw0_2
   replace cw0_3 := kn.cell0 cw0_3
   replace cw0_4 := kn.cell0 cw0_4
   replace cw0_5 := kn.cell0 cw0_5
   replace cx0_0 := kn.cell0 cx0_0
   replace cx0_1 := kn.cell0 cx0_1
   replace cx0_2 := kn.cell0 cx0_2
   replace cx0_3 := kn.cell0 cx0_3
   replace cx0_4 := kn.cell0 cx0_4
   replace cx0_5 := kn.cell0 cx0_5
   replace K := hide ((unhide K).trans kn)
   have z14 := kn.size
   clear kn
   go_wp2_with fail
   generalize w11.alloc (.cells #[.bool s1, .slice ax1 z1.length dx1, .int .i64 y1, .bool s1b, .slice ax1b z1b.length dx1b, .int .i64 y1b] 38) = wm13 at *
   have mk := ivjoin_impl s0 y0 gy0.1 gy0.2 s0b y0b gy0b.1 gy0b.2 s1 y1 gy1.1 gy1.2 s1b y1b gy1b.1 gy1b.2 wm13 rx0 rx0b rx1 rx1b (T.kept (unhide K))
   unfold IvAns at mk
   simp only [unhide EB1, unhide EL0, unhide EH0, unhide EG0, unhide EL0b, unhide EH0b, unhide EG0b] at mk
   refine (mk).mono ?_
   rintro e w15 ⟨vg0, vg0b, mmg0, rfl, rg0, rg0b, hmag0, hmbg0, k15⟩
   replace r0 := r0.kp k15
   replace r0b := r0b.kp k15
   replace r1 := r1.kp k15
   replace r1b := r1b.kp k15
   replace rw0 := rw0.kp k15
   replace rw0b := rw0b.kp k15
   replace rx0 := rx0.kp k15
   replace rx0b := rx0b.kp k15
   replace rx1 := rx1.kp k15
   replace rx1b := rx1b.kp k15
   replace A0_0 := k15.cell0 A0_0
   replace A0_1 := k15.cell0 A0_1
   replace A0_2 := k15.cell0 A0_2
   replace A0_3 := k15.cell0 A0_3
   replace A0_4 := k15.cell0 A0_4
   replace A0_5 := k15.cell0 A0_5
   replace A1_0 := k15.cell0 A1_0
   replace A1_1 := k15.cell0 A1_1
   replace A1_2 := k15.cell0 A1_2
   replace A1_3 := k15.cell0 A1_3
   replace A1_4 := k15.cell0 A1_4
   replace A1_5 := k15.cell0 A1_5
   replace cw0_0 := k15.cell0 cw0_0
   replace cw0_1 := k15.cell0 cw0_1
   replace cw0_2 := k15.cell0 cw0_2
   replace cw0_3 := k15.cell0 cw0_3
   replace cw0_4 := k15.cell0 cw0_4
   replace cw0_5 := k15.cell0 cw0_5
   replace cx0_0 := k15.cell0 cx0_0
   replace cx0_1 := k15.cell0 cx0_1
   replace cx0_2 := k15.cell0 cx0_2
   replace cx0_3 := k15.cell0 cx0_3
   replace cx0_4 := k15.cell0 cx0_4
   replace cx0_5 := k15.cell0 cx0_5
   replace cx1_0 := k15.cell0 cx1_0
   replace cx1_1 := k15.cell0 cx1_1
   replace cx1_2 := k15.cell0 cx1_2
   replace cx1_3 := k15.cell0 cx1_3
   replace cx1_4 := k15.cell0 cx1_4
   replace cx1_5 := k15.cell0 cx1_5
   replace K := hide ((unhide K).trans k15)
   have z16 := k15.size
   clear k15
   clear mk
   obtain ⟨ag0, dg0, hv⟩ := Row.form' rg0
   subst hv
   obtain ⟨ag0b, dg0b, hv⟩ := Row.form' rg0b
   subst hv
   have kn := (Kept.refl 0 0 w15).alloc (.cells #[.bool G0, .slice ag0 L0.length dg0, .int .i64 H0, .bool G0b, .slice ag0b L0b.length dg0b, .int .i64 H0b] 38)
   have cg0_0 : (w15.alloc (.cells #[.bool G0, .slice ag0 L0.length dg0, .int .i64 H0, .bool G0b, .slice ag0b L0b.length dg0b, .int .i64 H0b] 38)).cell? ⟨w15.heap.size, 0, none⟩ = some (.bool G0) := new_cell2 _ _ _ _ _ _ rfl rfl
   have cg0_1 : (w15.alloc (.cells #[.bool G0, .slice ag0 L0.length dg0, .int .i64 H0, .bool G0b, .slice ag0b L0b.length dg0b, .int .i64 H0b] 38)).cell? ⟨w15.heap.size, 1, none⟩ = some (.slice ag0 L0.length dg0) := new_cell2 _ _ _ _ _ _ rfl rfl
   have cg0_2 : (w15.alloc (.cells #[.bool G0, .slice ag0 L0.length dg0, .int .i64 H0, .bool G0b, .slice ag0b L0b.length dg0b, .int .i64 H0b] 38)).cell? ⟨w15.heap.size, 2, none⟩ = some (.int .i64 H0) := new_cell2 _ _ _ _ _ _ rfl rfl
   have cg0_3 : (w15.alloc (.cells #[.bool G0, .slice ag0 L0.length dg0, .int .i64 H0, .bool G0b, .slice ag0b L0b.length dg0b, .int .i64 H0b] 38)).cell? ⟨w15.heap.size, 3, none⟩ = some (.bool G0b) := new_cell2 _ _ _ _ _ _ rfl rfl
   have cg0_4 : (w15.alloc (.cells #[.bool G0, .slice ag0 L0.length dg0, .int .i64 H0, .bool G0b, .slice ag0b L0b.length dg0b, .int .i64 H0b] 38)).cell? ⟨w15.heap.size, 4, none⟩ = some (.slice ag0b L0b.length dg0b) := new_cell2 _ _ _ _ _ _ rfl rfl
   have cg0_5 : (w15.alloc (.cells #[.bool G0, .slice ag0 L0.length dg0, .int .i64 H0, .bool G0b, .slice ag0b L0b.length dg0b, .int .i64 H0b] 38)).cell? ⟨w15.heap.size, 5, none⟩ = some (.int .i64 H0b) := new_cell2 _ _ _ _ _ _ rfl rfl
   have t17 : w15.heap.size + 1 ≤ (w15.alloc (.cells #[.bool G0, .slice ag0 L0.length dg0, .int .i64 H0, .bool G0b, .slice ag0b L0b.length dg0b, .int .i64 H0b] 38)).heap.size := by simp
   replace r0 := r0.kp kn
   replace r0b := r0b.kp kn
   replace r1 := r1.kp kn
   replace r1b := r1b.kp kn
   replace rw0 := rw0.kp kn
   replace rw0b := rw0b.kp kn
   replace rx0 := rx0.kp kn
   replace rx0b := rx0b.kp kn
   replace rx1 := rx1.kp kn
   replace rx1b := rx1b.kp kn
   replace rg0 := rg0.kp kn
   replace rg0b := rg0b.kp kn
   replace A0_0 := kn.cell0 A0_0
   replace A0_1 := kn.cell0 A0_1
   replace A0_2 := kn.cell0 A0_2
   replace A0_3 := kn.cell0 A0_3
   replace A0_4 := kn.cell0 A0_4
   replace A0_5 := kn.cell0 A0_5
   replace A1_0 := kn.cell0 A1_0
   replace A1_1 := kn.cell0 A1_1
   replace A1_2 := kn.cell0 A1_2
   replace A1_3 := kn.cell0 A1_3
   replace A1_4 := kn.cell0 A1_4
   replace A1_5 := kn.cell0 A1_5
   replace cw0_0 := kn.cell0 cw0_0
   replace cw0_1 := kn.cell0 cw0_1
   replace cw0_2 := kn.cell0 cw0_2
   replace cw0_3 := kn.cell0 cw0_3
   replace cw0_4 := kn.cell0 cw0_4
   replace cw0_5 := kn.cell0 cw0_5
   replace cx0_0 := kn.cell0 cx0_0
   replace cx0_1 := kn.cell0 cx0_1
   replace cx0_2 := kn.cell0 cx0_2
   replace cx0_3 := kn.cell0 cx0_3
   replace cx0_4 := kn.cell0 cx0_4
   replace cx0_5 := kn.cell0 cx0_5
   replace cx1_0 := kn.cell0 cx1_0
   replace cx1_1 := kn.cell0 cx1_1
   replace cx1_2 := kn.cell0 cx1_2
   replace cx1_3 := kn.cell0 cx1_3
   replace cx1_4 := kn.cell0 cx1_4
   replace cx1_5 := kn.cell0 cx1_5
   replace K := hide ((unhide K).trans kn)
   have z18 := kn.size
   clear kn
   go_wp2_with fail
   generalize w15.alloc (.cells #[.bool G0, .slice ag0 L0.length dg0, .int .i64 H0, .bool G0b, .slice ag0b L0b.length dg0b, .int .i64 H0b] 38) = wm17 at *
   refine (eqIv_same (G0) (H0) (G0b) (H0b) _ rg0 rg0b rw0 rw0b).mono ?_
   rintro e w19 ⟨rfl, k19⟩
   replace r0 := r0.kp k19
   replace r0b := r0b.kp k19
   replace r1 := r1.kp k19
   replace r1b := r1b.kp k19
   replace rw0 := rw0.kp k19
   replace rw0b := rw0b.kp k19
   replace rx0 := rx0.kp k19
   replace rx0b := rx0b.kp k19
   replace rx1 := rx1.kp k19
   replace rx1b := rx1b.kp k19
   replace rg0 := rg0.kp k19
   replace rg0b := rg0b.kp k19
   replace A0_0 := k19.cell0 A0_0
   replace A0_1 := k19.cell0 A0_1
   replace A0_2 := k19.cell0 A0_2
   replace A0_3 := k19.cell0 A0_3
   replace A0_4 := k19.cell0 A0_4
   replace A0_5 := k19.cell0 A0_5
   replace A1_0 := k19.cell0 A1_0
   replace A1_1 := k19.cell0 A1_1
   replace A1_2 := k19.cell0 A1_2
   replace A1_3 := k19.cell0 A1_3
   replace A1_4 := k19.cell0 A1_4
   replace A1_5 := k19.cell0 A1_5
   replace cw0_0 := k19.cell0 cw0_0
   replace cw0_1 := k19.cell0 cw0_1
   replace cw0_2 := k19.cell0 cw0_2
   replace cw0_3 := k19.cell0 cw0_3
   replace cw0_4 := k19.cell0 cw0_4
   replace cw0_5 := k19.cell0 cw0_5
   replace cx0_0 := k19.cell0 cx0_0
   replace cx0_1 := k19.cell0 cx0_1
   replace cx0_2 := k19.cell0 cx0_2
   replace cx0_3 := k19.cell0 cx0_3
   replace cx0_4 := k19.cell0 cx0_4
   replace cx0_5 := k19.cell0 cx0_5
   replace cx1_0 := k19.cell0 cx1_0
   replace cx1_1 := k19.cell0 cx1_1
   replace cx1_2 := k19.cell0 cx1_2
   replace cx1_3 := k19.cell0 cx1_3
   replace cx1_4 := k19.cell0 cx1_4
   replace cx1_5 := k19.cell0 cx1_5
   replace cg0_0 := k19.cell0 cg0_0
   replace cg0_1 := k19.cell0 cg0_1
   replace cg0_2 := k19.cell0 cg0_2
   replace cg0_3 := k19.cell0 cg0_3
   replace cg0_4 := k19.cell0 cg0_4
   replace cg0_5 := k19.cell0 cg0_5
   replace K := hide ((unhide K).trans k19)
   have z20 := k19.size
   clear k19
   go_wp2_with fail
   have kd := (Kept.refl 0 0 w19).drew
   replace r0 := r0.kp kd
   replace r0b := r0b.kp kd
   replace r1 := r1.kp kd
   replace r1b := r1b.kp kd
   replace rw0 := rw0.kp kd
   replace rw0b := rw0b.kp kd
   replace rx0 := rx0.kp kd
   replace rx0b := rx0b.kp kd
   replace rx1 := rx1.kp kd
   replace rx1b := rx1b.kp kd
   replace rg0 := rg0.kp kd
   replace rg0b := rg0b.kp kd
   replace A0_0 := kd.cell0 A0_0
   replace A0_1 := kd.cell0 A0_1
   replace A0_2 := kd.cell0 A0_2
   replace A0_3 := kd.cell0 A0_3
   replace A0_4 := kd.cell0 A0_4
   replace A0_5 := kd.cell0 A0_5
   replace A1_0 := kd.cell0 A1_0
   replace A1_1 := kd.cell0 A1_1
   replace A1_2 := kd.cell0 A1_2
   replace A1_3 := kd.cell0 A1_3
   replace A1_4 := kd.cell0 A1_4
   replace A1_5 := kd.cell0 A1_5
   replace cw0_0 := kd.cell0 cw0_0
   replace cw0_1 := kd.cell0 cw0_1
   replace cw0_2 := kd.cell0 cw0_2
   replace cw0_3 := kd.cell0 cw0_3
   replace cw0_4 := kd.cell0 cw0_4
   replace cw0_5 := kd.cell0 cw0_5
   replace cx0_0 := kd.cell0 cx0_0
   replace cx0_1 := kd.cell0 cx0_1
   replace cx0_2 := kd.cell0 cx0_2
   replace cx0_3 := kd.cell0 cx0_3
   replace cx0_4 := kd.cell0 cx0_4
   replace cx0_5 := kd.cell0 cx0_5
   replace cx1_0 := kd.cell0 cx1_0
   replace cx1_1 := kd.cell0 cx1_1
   replace cx1_2 := kd.cell0 cx1_2
   replace cx1_3 := kd.cell0 cx1_3
   replace cx1_4 := kd.cell0 cx1_4
   replace cx1_5 := kd.cell0 cx1_5
   replace cg0_0 := kd.cell0 cg0_0
   replace cg0_1 := kd.cell0 cg0_1
   replace cg0_2 := kd.cell0 cg0_2
   replace cg0_3 := kd.cell0 cg0_3
   replace cg0_4 := kd.cell0 cg0_4
   replace cg0_5 := kd.cell0 cg0_5
   replace K := hide ((unhide K).trans kd)
   have z21 := kd.size
   clear kd
   refine wp_region_held_drew (S := (fun w' => w'.cell? ⟨w.heap.size, 0, none⟩ = some (.bool s0) ∧ w'.cell? ⟨w.heap.size, 1, none⟩ = some (.slice a0 z0.length c0) ∧ w'.cell? ⟨w.heap.size, 2, none⟩ = some (.int .i64 y0) ∧ w'.cell? ⟨w.heap.size, 3, none⟩ = some (.bool s0b) ∧ w'.cell? ⟨w.heap.size, 4, none⟩ = some (.slice a0b z0b.length c0b) ∧ w'.cell? ⟨w.heap.size, 5, none⟩ = some (.int .i64 y0b) ∧ w'.cell? ⟨w7.heap.size, 0, none⟩ = some (.bool s0) ∧ w'.cell? ⟨w7.heap.size, 1, none⟩ = some (.slice ax0 z0.length dx0) ∧ w'.cell? ⟨w7.heap.size, 2, none⟩ = some (.int .i64 y0) ∧ w'.cell? ⟨w7.heap.size, 3, none⟩ = some (.bool s0b) ∧ w'.cell? ⟨w7.heap.size, 4, none⟩ = some (.slice ax0b z0b.length dx0b) ∧ w'.cell? ⟨w7.heap.size, 5, none⟩ = some (.int .i64 y0b))) (by kernel_rfl) ?_ (fun hH => ?_)
   ·exact ⟨A0_0, A0_1, A0_2, A0_3, A0_4, A0_5, cx0_0, cx0_1, cx0_2, cx0_3, cx0_4, cx0_5⟩
   refine wpAnyH_take (i := 0) (v := .agg #[.bool s0, .slice ax0 z0.length dx0, .int .i64 y0, .bool s0b, .slice ax0b z0b.length dx0b, .int .i64 y0b]) rfl (by kernel_rfl) (by kernel_rfl) (by kernel_rfl) (fun _ _ _ h => h) (Or.inl ⟨by rfl, ?_⟩) hH ?_
   ·intro wq hSw
    try dsimp only at hSw
    go_simp
   try simp only [Act.put, zq1, zq2, zq3, zq4, zq5, zq6]
   refine wpAnyH_take (i := 1) (v := .agg #[.bool s0, .slice a0 z0.length c0, .int .i64 y0, .bool s0b, .slice a0b z0b.length c0b, .int .i64 y0b]) rfl (by kernel_rfl) (by kernel_rfl) (by kernel_rfl) (fun _ _ _ h => h) (Or.inl ⟨by rfl, ?_⟩) hH ?_
   ·intro wq hSw
    try dsimp only at hSw
    go_simp
   try simp only [Act.put, zq1, zq2, zq3, zq4, zq5, zq6]
   refine wpAnyH_ready (rs := [2]) (by kernel_rfl) (by simp) ?_
   refine AllReadyH.cons rfl (fun KK hK => ?_) AllReadyH.nil
   simp only [zq1, zq2, zq3]
   rw [if_pos (by rfl)]
   refine wps1 7 (.tmp 55) _ rfl in_toV (.agg #[.bool s0, .slice a0 z0.length c0, .int .i64 y0, .bool s0b, .slice a0b z0b.length c0b, .int .i64 y0b]) rfl (toIv_any (s0) (y0) (s0b) (y0b) _ hn0 hn0b r0 r0b) ?_
   rintro e w22 ⟨v80, v80b, mm80, rfl, r80, r80b, hma80, hmb80, k22⟩
   refine ⟨_, rfl, ?_⟩
   replace r0 := r0.kp k22
   replace r0b := r0b.kp k22
   replace r1 := r1.kp k22
   replace r1b := r1b.kp k22
   replace rw0 := rw0.kp k22
   replace rw0b := rw0b.kp k22
   replace rx0 := rx0.kp k22
   replace rx0b := rx0b.kp k22
   replace rx1 := rx1.kp k22
   replace rx1b := rx1b.kp k22
   replace rg0 := rg0.kp k22
   replace rg0b := rg0b.kp k22
   replace A0_0 := k22.cell0 A0_0
   replace A0_1 := k22.cell0 A0_1
   replace A0_2 := k22.cell0 A0_2
   replace A0_3 := k22.cell0 A0_3
   replace A0_4 := k22.cell0 A0_4
   replace A0_5 := k22.cell0 A0_5
   replace A1_0 := k22.cell0 A1_0
   replace A1_1 := k22.cell0 A1_1
   replace A1_2 := k22.cell0 A1_2
   replace A1_3 := k22.cell0 A1_3
   replace A1_4 := k22.cell0 A1_4
   replace A1_5 := k22.cell0 A1_5
   replace cw0_0 := k22.cell0 cw0_0
   replace cw0_1 := k22.cell0 cw0_1
   replace cw0_2 := k22.cell0 cw0_2
   replace cw0_3 := k22.cell0 cw0_3
   replace cw0_4 := k22.cell0 cw0_4
   replace cw0_5 := k22.cell0 cw0_5
   replace cx0_0 := k22.cell0 cx0_0
   replace cx0_1 := k22.cell0 cx0_1
   replace cx0_2 := k22.cell0 cx0_2
   replace cx0_3 := k22.cell0 cx0_3
   replace cx0_4 := k22.cell0 cx0_4
   replace cx0_5 := k22.cell0 cx0_5
   replace cx1_0 := k22.cell0 cx1_0
   replace cx1_1 := k22.cell0 cx1_1
   replace cx1_2 := k22.cell0 cx1_2
   replace cx1_3 := k22.cell0 cx1_3
   replace cx1_4 := k22.cell0 cx1_4
   replace cx1_5 := k22.cell0 cx1_5
   replace cg0_0 := k22.cell0 cg0_0
   replace cg0_1 := k22.cell0 cg0_1
   replace cg0_2 := k22.cell0 cg0_2
   replace cg0_3 := k22.cell0 cg0_3
   replace cg0_4 := k22.cell0 cg0_4
   replace cg0_5 := k22.cell0 cg0_5
   replace K := hide ((unhide K).trans k22)
   have z23 := k22.size
   clear k22
   clear hH
   refine hK.out _ _ ?_ (fun hH => ?_)
   ·exact ⟨A0_0, A0_1, A0_2, A0_3, A0_4, A0_5, cx0_0, cx0_1, cx0_2, cx0_3, cx0_4, cx0_5⟩
   clear hK KK
   try simp only [Act.put, zq1, zq2, zq3, zq4, zq5, zq6]
   refine wpAnyH_ready (rs := [3]) (by kernel_rfl) (by simp) ?_
   refine AllReadyH.cons rfl (fun KK hK => ?_) AllReadyH.nil
   simp only [zq1, zq2, zq3]
   rw [if_pos (by rfl)]
   refine wps2 9 (.tmp 54) (.tmp 56) _ rfl in_eqV (.agg #[.bool s0, .slice ax0 z0.length dx0, .int .i64 y0, .bool s0b, .slice ax0b z0b.length dx0b, .int .i64 y0b]) (.agg #[.bool s0, v80, .int .i64 y0, .bool s0b, v80b, .int .i64 y0b]) rfl rfl (eqIv_same (s0) (y0) (s0b) (y0b) _ rx0 rx0b r80 r80b) ?_
   rintro e w24 ⟨rfl, k24⟩
   refine ⟨_, rfl, ?_⟩
   replace r0 := r0.kp k24
   replace r0b := r0b.kp k24
   replace r1 := r1.kp k24
   replace r1b := r1b.kp k24
   replace rw0 := rw0.kp k24
   replace rw0b := rw0b.kp k24
   replace rx0 := rx0.kp k24
   replace rx0b := rx0b.kp k24
   replace rx1 := rx1.kp k24
   replace rx1b := rx1b.kp k24
   replace rg0 := rg0.kp k24
   replace rg0b := rg0b.kp k24
   replace r80 := r80.kp k24
   replace r80b := r80b.kp k24
   replace A0_0 := k24.cell0 A0_0
   replace A0_1 := k24.cell0 A0_1
   replace A0_2 := k24.cell0 A0_2
   replace A0_3 := k24.cell0 A0_3
   replace A0_4 := k24.cell0 A0_4
   replace A0_5 := k24.cell0 A0_5
   replace A1_0 := k24.cell0 A1_0
   replace A1_1 := k24.cell0 A1_1
   replace A1_2 := k24.cell0 A1_2
   replace A1_3 := k24.cell0 A1_3
   replace A1_4 := k24.cell0 A1_4
   replace A1_5 := k24.cell0 A1_5
   replace cw0_0 := k24.cell0 cw0_0
   replace cw0_1 := k24.cell0 cw0_1
   replace cw0_2 := k24.cell0 cw0_2
   replace cw0_3 := k24.cell0 cw0_3
   replace cw0_4 := k24.cell0 cw0_4
   replace cw0_5 := k24.cell0 cw0_5
   replace cx0_0 := k24.cell0 cx0_0
   replace cx0_1 := k24.cell0 cx0_1
   replace cx0_2 := k24.cell0 cx0_2
   replace cx0_3 := k24.cell0 cx0_3
   replace cx0_4 := k24.cell0 cx0_4
   replace cx0_5 := k24.cell0 cx0_5
   replace cx1_0 := k24.cell0 cx1_0
   replace cx1_1 := k24.cell0 cx1_1
   replace cx1_2 := k24.cell0 cx1_2
   replace cx1_3 := k24.cell0 cx1_3
   replace cx1_4 := k24.cell0 cx1_4
   replace cx1_5 := k24.cell0 cx1_5
   replace cg0_0 := k24.cell0 cg0_0
   replace cg0_1 := k24.cell0 cg0_1
   replace cg0_2 := k24.cell0 cg0_2
   replace cg0_3 := k24.cell0 cg0_3
   replace cg0_4 := k24.cell0 cg0_4
   replace cg0_5 := k24.cell0 cg0_5
   replace K := hide ((unhide K).trans k24)
   have z25 := k24.size
   clear k24
   clear hH
   refine hK.out _ _ ?_ (fun hH => ?_)
   ·exact ⟨A0_0, A0_1, A0_2, A0_3, A0_4, A0_5, cx0_0, cx0_1, cx0_2, cx0_3, cx0_4, cx0_5⟩
   clear hK KK
   try simp only [Act.put, zq1, zq2, zq3, zq4, zq5, zq6]
   refine wpAnyH_take (i := 4) (v := .bool false) rfl (by kernel_rfl) (by kernel_rfl) (by kernel_rfl) (fun _ _ _ h => h) (Or.inl ⟨by rfl, ?_⟩) hH ?_
   ·intro wq hSw
    try dsimp only at hSw
    go_simp
   try simp only [Act.put, zq1, zq2, zq3, zq4, zq5, zq6]
   refine wpAnyH_done (by kernel_rfl) ?_ _
   clear hH
   clear r80 r80b
   go_wp2_with fail
   have kd := (Kept.refl 0 0 w24).drew
   replace r0 := r0.kp kd
   replace r0b := r0b.kp kd
   replace r1 := r1.kp kd
   replace r1b := r1b.kp kd
   replace rw0 := rw0.kp kd
   replace rw0b := rw0b.kp kd
   replace rx0 := rx0.kp kd
   replace rx0b := rx0b.kp kd
   replace rx1 := rx1.kp kd
   replace rx1b := rx1b.kp kd
   replace rg0 := rg0.kp kd
   replace rg0b := rg0b.kp kd
   replace A0_0 := kd.cell0 A0_0
   replace A0_1 := kd.cell0 A0_1
   replace A0_2 := kd.cell0 A0_2
   replace A0_3 := kd.cell0 A0_3
   replace A0_4 := kd.cell0 A0_4
   replace A0_5 := kd.cell0 A0_5
   replace A1_0 := kd.cell0 A1_0
   replace A1_1 := kd.cell0 A1_1
   replace A1_2 := kd.cell0 A1_2
   replace A1_3 := kd.cell0 A1_3
   replace A1_4 := kd.cell0 A1_4
   replace A1_5 := kd.cell0 A1_5
   replace cw0_0 := kd.cell0 cw0_0
   replace cw0_1 := kd.cell0 cw0_1
   replace cw0_2 := kd.cell0 cw0_2
   replace cw0_3 := kd.cell0 cw0_3
   replace cw0_4 := kd.cell0 cw0_4
   replace cw0_5 := kd.cell0 cw0_5
   replace cx0_0 := kd.cell0 cx0_0
   replace cx0_1 := kd.cell0 cx0_1
   replace cx0_2 := kd.cell0 cx0_2
   replace cx0_3 := kd.cell0 cx0_3
   replace cx0_4 := kd.cell0 cx0_4
   replace cx0_5 := kd.cell0 cx0_5
   replace cx1_0 := kd.cell0 cx1_0
   replace cx1_1 := kd.cell0 cx1_1
   replace cx1_2 := kd.cell0 cx1_2
   replace cx1_3 := kd.cell0 cx1_3
   replace cx1_4 := kd.cell0 cx1_4
   replace cx1_5 := kd.cell0 cx1_5
   replace cg0_0 := kd.cell0 cg0_0
   replace cg0_1 := kd.cell0 cg0_1
   replace cg0_2 := kd.cell0 cg0_2
   replace cg0_3 := kd.cell0 cg0_3
   replace cg0_4 := kd.cell0 cg0_4
   replace cg0_5 := kd.cell0 cg0_5
   replace K := hide ((unhide K).trans kd)
   have z26 := kd.size
   clear kd
   refine wp_region_held_drew (S := (fun w' => w'.cell? ⟨w.heap.size + 1, 0, none⟩ = some (.bool s1) ∧ w'.cell? ⟨w.heap.size + 1, 1, none⟩ = some (.slice a1 z1.length c1) ∧ w'.cell? ⟨w.heap.size + 1, 2, none⟩ = some (.int .i64 y1) ∧ w'.cell? ⟨w.heap.size + 1, 3, none⟩ = some (.bool s1b) ∧ w'.cell? ⟨w.heap.size + 1, 4, none⟩ = some (.slice a1b z1b.length c1b) ∧ w'.cell? ⟨w.heap.size + 1, 5, none⟩ = some (.int .i64 y1b) ∧ w'.cell? ⟨w11.heap.size, 0, none⟩ = some (.bool s1) ∧ w'.cell? ⟨w11.heap.size, 1, none⟩ = some (.slice ax1 z1.length dx1) ∧ w'.cell? ⟨w11.heap.size, 2, none⟩ = some (.int .i64 y1) ∧ w'.cell? ⟨w11.heap.size, 3, none⟩ = some (.bool s1b) ∧ w'.cell? ⟨w11.heap.size, 4, none⟩ = some (.slice ax1b z1b.length dx1b) ∧ w'.cell? ⟨w11.heap.size, 5, none⟩ = some (.int .i64 y1b))) (by kernel_rfl) ?_ (fun hH => ?_)
   ·exact ⟨A1_0, A1_1, A1_2, A1_3, A1_4, A1_5, cx1_0, cx1_1, cx1_2, cx1_3, cx1_4, cx1_5⟩
   refine wpAnyH_take (i := 0) (v := .agg #[.bool s1, .slice ax1 z1.length dx1, .int .i64 y1, .bool s1b, .slice ax1b z1b.length dx1b, .int .i64 y1b]) rfl (by kernel_rfl) (by kernel_rfl) (by kernel_rfl) (fun _ _ _ h => h) (Or.inl ⟨by rfl, ?_⟩) hH ?_
   ·intro wq hSw
    try dsimp only at hSw
    go_simp
   try simp only [Act.put, zq1, zq2, zq3, zq4, zq5, zq6]
   refine wpAnyH_take (i := 1) (v := .agg #[.bool s1, .slice a1 z1.length c1, .int .i64 y1, .bool s1b, .slice a1b z1b.length c1b, .int .i64 y1b]) rfl (by kernel_rfl) (by kernel_rfl) (by kernel_rfl) (fun _ _ _ h => h) (Or.inl ⟨by rfl, ?_⟩) hH ?_
   ·intro wq hSw
    try dsimp only at hSw
    go_simp
   try simp only [Act.put, zq1, zq2, zq3, zq4, zq5, zq6]
   refine wpAnyH_ready (rs := [2]) (by kernel_rfl) (by simp) ?_
   refine AllReadyH.cons rfl (fun KK hK => ?_) AllReadyH.nil
   simp only [zq1, zq2, zq3]
   rw [if_pos (by rfl)]
   refine wps1 7 (.tmp 60) _ rfl in_toV (.agg #[.bool s1, .slice a1 z1.length c1, .int .i64 y1, .bool s1b, .slice a1b z1b.length c1b, .int .i64 y1b]) rfl (toIv_any (s1) (y1) (s1b) (y1b) _ hn1 hn1b r1 r1b) ?_
   rintro e w27 ⟨v81, v81b, mm81, rfl, r81, r81b, hma81, hmb81, k27⟩
   refine ⟨_, rfl, ?_⟩
   replace r0 := r0.kp k27
   replace r0b := r0b.kp k27
   replace r1 := r1.kp k27
   replace r1b := r1b.kp k27
   replace rw0 := rw0.kp k27
   replace rw0b := rw0b.kp k27
   replace rx0 := rx0.kp k27
   replace rx0b := rx0b.kp k27
   replace rx1 := rx1.kp k27
   replace rx1b := rx1b.kp k27
   replace rg0 := rg0.kp k27
   replace rg0b := rg0b.kp k27
   replace A0_0 := k27.cell0 A0_0
   replace A0_1 := k27.cell0 A0_1
   replace A0_2 := k27.cell0 A0_2
   replace A0_3 := k27.cell0 A0_3
   replace A0_4 := k27.cell0 A0_4
   replace A0_5 := k27.cell0 A0_5
   replace A1_0 := k27.cell0 A1_0
   replace A1_1 := k27.cell0 A1_1
   replace A1_2 := k27.cell0 A1_2
   replace A1_3 := k27.cell0 A1_3
   replace A1_4 := k27.cell0 A1_4
   replace A1_5 := k27.cell0 A1_5
   replace cw0_0 := k27.cell0 cw0_0
   replace cw0_1 := k27.cell0 cw0_1
   replace cw0_2 := k27.cell0 cw0_2
   replace cw0_3 := k27.cell0 cw0_3
   replace cw0_4 := k27.cell0 cw0_4
   replace cw0_5 := k27.cell0 cw0_5
   replace cx0_0 := k27.cell0 cx0_0
   replace cx0_1 := k27.cell0 cx0_1
   replace cx0_2 := k27.cell0 cx0_2
   replace cx0_3 := k27.cell0 cx0_3
   replace cx0_4 := k27.cell0 cx0_4
   replace cx0_5 := k27.cell0 cx0_5
   replace cx1_0 := k27.cell0 cx1_0
   replace cx1_1 := k27.cell0 cx1_1
   replace cx1_2 := k27.cell0 cx1_2
   replace cx1_3 := k27.cell0 cx1_3
   replace cx1_4 := k27.cell0 cx1_4
   replace cx1_5 := k27.cell0 cx1_5
   replace cg0_0 := k27.cell0 cg0_0
   replace cg0_1 := k27.cell0 cg0_1
   replace cg0_2 := k27.cell0 cg0_2
   replace cg0_3 := k27.cell0 cg0_3
   replace cg0_4 := k27.cell0 cg0_4
   replace cg0_5 := k27.cell0 cg0_5
   replace K := hide ((unhide K).trans k27)
   have z28 := k27.size
   clear k27
   clear hH
   refine hK.out _ _ ?_ (fun hH => ?_)
   ·exact ⟨A1_0, A1_1, A1_2, A1_3, A1_4, A1_5, cx1_0, cx1_1, cx1_2, cx1_3, cx1_4, cx1_5⟩
   clear hK KK
   try simp only [Act.put, zq1, zq2, zq3, zq4, zq5, zq6]
   refine wpAnyH_ready (rs := [3]) (by kernel_rfl) (by simp) ?_
   refine AllReadyH.cons rfl (fun KK hK => ?_) AllReadyH.nil
   simp only [zq1, zq2, zq3]
   rw [if_pos (by rfl)]
   refine wps2 9 (.tmp 59) (.tmp 61) _ rfl in_eqV (.agg #[.bool s1, .slice ax1 z1.length dx1, .int .i64 y1, .bool s1b, .slice ax1b z1b.length dx1b, .int .i64 y1b]) (.agg #[.bool s1, v81, .int .i64 y1, .bool s1b, v81b, .int .i64 y1b]) rfl rfl (eqIv_same (s1) (y1) (s1b) (y1b) _ rx1 rx1b r81 r81b) ?_
   rintro e w29 ⟨rfl, k29⟩
   refine ⟨_, rfl, ?_⟩
   replace r0 := r0.kp k29
   replace r0b := r0b.kp k29
   replace r1 := r1.kp k29
   replace r1b := r1b.kp k29
   replace rw0 := rw0.kp k29
   replace rw0b := rw0b.kp k29
   replace rx0 := rx0.kp k29
   replace rx0b := rx0b.kp k29
   replace rx1 := rx1.kp k29
   replace rx1b := rx1b.kp k29
   replace rg0 := rg0.kp k29
   replace rg0b := rg0b.kp k29
   replace r81 := r81.kp k29
   replace r81b := r81b.kp k29
   replace A0_0 := k29.cell0 A0_0
   replace A0_1 := k29.cell0 A0_1
   replace A0_2 := k29.cell0 A0_2
   replace A0_3 := k29.cell0 A0_3
   replace A0_4 := k29.cell0 A0_4
   replace A0_5 := k29.cell0 A0_5
   replace A1_0 := k29.cell0 A1_0
   replace A1_1 := k29.cell0 A1_1
   replace A1_2 := k29.cell0 A1_2
   replace A1_3 := k29.cell0 A1_3
   replace A1_4 := k29.cell0 A1_4
   replace A1_5 := k29.cell0 A1_5
   replace cw0_0 := k29.cell0 cw0_0
   replace cw0_1 := k29.cell0 cw0_1
   replace cw0_2 := k29.cell0 cw0_2
   replace cw0_3 := k29.cell0 cw0_3
   replace cw0_4 := k29.cell0 cw0_4
   replace cw0_5 := k29.cell0 cw0_5
   replace cx0_0 := k29.cell0 cx0_0
   replace cx0_1 := k29.cell0 cx0_1
   replace cx0_2 := k29.cell0 cx0_2
   replace cx0_3 := k29.cell0 cx0_3
   replace cx0_4 := k29.cell0 cx0_4
   replace cx0_5 := k29.cell0 cx0_5
   replace cx1_0 := k29.cell0 cx1_0
   replace cx1_1 := k29.cell0 cx1_1
   replace cx1_2 := k29.cell0 cx1_2
   replace cx1_3 := k29.cell0 cx1_3
   replace cx1_4 := k29.cell0 cx1_4
   replace cx1_5 := k29.cell0 cx1_5
   replace cg0_0 := k29.cell0 cg0_0
   replace cg0_1 := k29.cell0 cg0_1
   replace cg0_2 := k29.cell0 cg0_2
   replace cg0_3 := k29.cell0 cg0_3
   replace cg0_4 := k29.cell0 cg0_4
   replace cg0_5 := k29.cell0 cg0_5
   replace K := hide ((unhide K).trans k29)
   have z30 := k29.size
   clear k29
   clear hH
   refine hK.out _ _ ?_ (fun hH => ?_)
   ·exact ⟨A1_0, A1_1, A1_2, A1_3, A1_4, A1_5, cx1_0, cx1_1, cx1_2, cx1_3, cx1_4, cx1_5⟩
   clear hK KK
   try simp only [Act.put, zq1, zq2, zq3, zq4, zq5, zq6]
   refine wpAnyH_take (i := 4) (v := .bool false) rfl (by kernel_rfl) (by kernel_rfl) (by kernel_rfl) (fun _ _ _ h => h) (Or.inl ⟨by rfl, ?_⟩) hH ?_
   ·intro wq hSw
    try dsimp only at hSw
    go_simp
   try simp only [Act.put, zq1, zq2, zq3, zq4, zq5, zq6]
   refine wpAnyH_done (by kernel_rfl) ?_ _
   clear hH
   clear r81 r81b
   have S0' := unhide S0
   go_wp2_with fail
   refine (markIv_wide (s0) (y0) (s0b) (y0b) _ (1) (by omega) (by omega) (by omega) (by omega) hmax0 hmbx0 (by omega) rx0 rx0b).mono ?_
   rintro e w31 ⟨rfl, -, -, k31⟩
   replace r0 := r0.kept k31 (by omega)
   replace r0b := r0b.kept k31 (by omega)
   replace r1 := r1.kept k31 (by omega)
   replace r1b := r1b.kept k31 (by omega)
   replace rw0 := rw0.kept k31 (by omega)
   replace rw0b := rw0b.kept k31 (by omega)
   replace rx1 := rx1.kept k31 (by omega)
   replace rx1b := rx1b.kept k31 (by omega)
   replace rg0 := rg0.kept k31 (by omega)
   replace rg0b := rg0b.kept k31 (by omega)
   replace A0_0 := k31.cellOut (by dsimp only; omega) A0_0
   replace A0_1 := k31.cellOut (by dsimp only; omega) A0_1
   replace A0_2 := k31.cellOut (by dsimp only; omega) A0_2
   replace A0_3 := k31.cellOut (by dsimp only; omega) A0_3
   replace A0_4 := k31.cellOut (by dsimp only; omega) A0_4
   replace A0_5 := k31.cellOut (by dsimp only; omega) A0_5
   replace A1_0 := k31.cellOut (by dsimp only; omega) A1_0
   replace A1_1 := k31.cellOut (by dsimp only; omega) A1_1
   replace A1_2 := k31.cellOut (by dsimp only; omega) A1_2
   replace A1_3 := k31.cellOut (by dsimp only; omega) A1_3
   replace A1_4 := k31.cellOut (by dsimp only; omega) A1_4
   replace A1_5 := k31.cellOut (by dsimp only; omega) A1_5
   replace cw0_0 := k31.cellOut (by dsimp only; omega) cw0_0
   replace cw0_1 := k31.cellOut (by dsimp only; omega) cw0_1
   replace cw0_2 := k31.cellOut (by dsimp only; omega) cw0_2
   replace cw0_3 := k31.cellOut (by dsimp only; omega) cw0_3
   replace cw0_4 := k31.cellOut (by dsimp only; omega) cw0_4
   replace cw0_5 := k31.cellOut (by dsimp only; omega) cw0_5
   replace cx0_0 := k31.cellOut (by dsimp only; omega) cx0_0
   replace cx0_1 := k31.cellOut (by dsimp only; omega) cx0_1
   replace cx0_2 := k31.cellOut (by dsimp only; omega) cx0_2
   replace cx0_3 := k31.cellOut (by dsimp only; omega) cx0_3
   replace cx0_4 := k31.cellOut (by dsimp only; omega) cx0_4
   replace cx0_5 := k31.cellOut (by dsimp only; omega) cx0_5
   replace cx1_0 := k31.cellOut (by dsimp only; omega) cx1_0
   replace cx1_1 := k31.cellOut (by dsimp only; omega) cx1_1
   replace cx1_2 := k31.cellOut (by dsimp only; omega) cx1_2
   replace cx1_3 := k31.cellOut (by dsimp only; omega) cx1_3
   replace cx1_4 := k31.cellOut (by dsimp only; omega) cx1_4
   replace cx1_5 := k31.cellOut (by dsimp only; omega) cx1_5
   replace cg0_0 := k31.cellOut (by dsimp only; omega) cg0_0
   replace cg0_1 := k31.cellOut (by dsimp only; omega) cg0_1
   replace cg0_2 := k31.cellOut (by dsimp only; omega) cg0_2
   replace cg0_3 := k31.cellOut (by dsimp only; omega) cg0_3
   replace cg0_4 := k31.cellOut (by dsimp only; omega) cg0_4
   replace cg0_5 := k31.cellOut (by dsimp only; omega) cg0_5
   replace K := hide ((unhide K).wide k31 (by omega))
   have z31 := k31.size
   clear k31 rx0 rx0b
   go_wp2_with fail
   refine (markIv_wide (s1) (y1) (s1b) (y1b) _ ((1 + ((z0.length : Int) + (z0b.length : Int)))) (by omega) (by omega) (by omega) (by omega) hmax1 hmbx1 (by omega) rx1 rx1b).mono ?_
   rintro e w32 ⟨rfl, -, -, k32⟩
   replace r0 := r0.kept k32 (by omega)
   replace r0b := r0b.kept k32 (by omega)
   replace r1 := r1.kept k32 (by omega)
   replace r1b := r1b.kept k32 (by omega)
   replace rw0 := rw0.kept k32 (by omega)
   replace rw0b := rw0b.kept k32 (by omega)
   replace rg0 := rg0.kept k32 (by omega)
   replace rg0b := rg0b.kept k32 (by omega)
   replace A0_0 := k32.cellOut (by dsimp only; omega) A0_0
   replace A0_1 := k32.cellOut (by dsimp only; omega) A0_1
   replace A0_2 := k32.cellOut (by dsimp only; omega) A0_2
   replace A0_3 := k32.cellOut (by dsimp only; omega) A0_3
   replace A0_4 := k32.cellOut (by dsimp only; omega) A0_4
   replace A0_5 := k32.cellOut (by dsimp only; omega) A0_5
   replace A1_0 := k32.cellOut (by dsimp only; omega) A1_0
   replace A1_1 := k32.cellOut (by dsimp only; omega) A1_1
   replace A1_2 := k32.cellOut (by dsimp only; omega) A1_2
   replace A1_3 := k32.cellOut (by dsimp only; omega) A1_3
   replace A1_4 := k32.cellOut (by dsimp only; omega) A1_4
   replace A1_5 := k32.cellOut (by dsimp only; omega) A1_5
   replace cw0_0 := k32.cellOut (by dsimp only; omega) cw0_0
   replace cw0_1 := k32.cellOut (by dsimp only; omega) cw0_1
   replace cw0_2 := k32.cellOut (by dsimp only; omega) cw0_2
   replace cw0_3 := k32.cellOut (by dsimp only; omega) cw0_3
   replace cw0_4 := k32.cellOut (by dsimp only; omega) cw0_4
   replace cw0_5 := k32.cellOut (by dsimp only; omega) cw0_5
   replace cx0_0 := k32.cellOut (by dsimp only; omega) cx0_0
   replace cx0_1 := k32.cellOut (by dsimp only; omega) cx0_1
   replace cx0_2 := k32.cellOut (by dsimp only; omega) cx0_2
   replace cx0_3 := k32.cellOut (by dsimp only; omega) cx0_3
   replace cx0_4 := k32.cellOut (by dsimp only; omega) cx0_4
   replace cx0_5 := k32.cellOut (by dsimp only; omega) cx0_5
   replace cx1_0 := k32.cellOut (by dsimp only; omega) cx1_0
   replace cx1_1 := k32.cellOut (by dsimp only; omega) cx1_1
   replace cx1_2 := k32.cellOut (by dsimp only; omega) cx1_2
   replace cx1_3 := k32.cellOut (by dsimp only; omega) cx1_3
   replace cx1_4 := k32.cellOut (by dsimp only; omega) cx1_4
   replace cx1_5 := k32.cellOut (by dsimp only; omega) cx1_5
   replace cg0_0 := k32.cellOut (by dsimp only; omega) cg0_0
   replace cg0_1 := k32.cellOut (by dsimp only; omega) cg0_1
   replace cg0_2 := k32.cellOut (by dsimp only; omega) cg0_2
   replace cg0_3 := k32.cellOut (by dsimp only; omega) cg0_3
   replace cg0_4 := k32.cellOut (by dsimp only; omega) cg0_4
   replace cg0_5 := k32.cellOut (by dsimp only; omega) cg0_5
   replace K := hide ((unhide K).wide k32 (by omega))
   have z32 := k32.size
   clear k32 rx1 rx1b
   have nk : ¬ ((1 + ((z0.length : Int) + (z0b.length : Int))) + ((z1.length : Int) + (z1b.length : Int))) < 0 := by omega
   go_wp2_with fail
   refine (eqIv_same (G0) (H0) (G0b) (H0b) _ rg0 rg0b rw0 rw0b).mono ?_
   rintro e w33 ⟨rfl, k33⟩
   replace r0 := r0.kp k33
   replace r0b := r0b.kp k33
   replace r1 := r1.kp k33
   replace r1b := r1b.kp k33
   replace rw0 := rw0.kp k33
   replace rw0b := rw0b.kp k33
   replace rg0 := rg0.kp k33
   replace rg0b := rg0b.kp k33
   replace A0_0 := k33.cell0 A0_0
   replace A0_1 := k33.cell0 A0_1
   replace A0_2 := k33.cell0 A0_2
   replace A0_3 := k33.cell0 A0_3
   replace A0_4 := k33.cell0 A0_4
   replace A0_5 := k33.cell0 A0_5
   replace A1_0 := k33.cell0 A1_0
   replace A1_1 := k33.cell0 A1_1
   replace A1_2 := k33.cell0 A1_2
   replace A1_3 := k33.cell0 A1_3
   replace A1_4 := k33.cell0 A1_4
   replace A1_5 := k33.cell0 A1_5
   replace cw0_0 := k33.cell0 cw0_0
   replace cw0_1 := k33.cell0 cw0_1
   replace cw0_2 := k33.cell0 cw0_2
   replace cw0_3 := k33.cell0 cw0_3
   replace cw0_4 := k33.cell0 cw0_4
   replace cw0_5 := k33.cell0 cw0_5
   replace cx0_0 := k33.cell0 cx0_0
   replace cx0_1 := k33.cell0 cx0_1
   replace cx0_2 := k33.cell0 cx0_2
   replace cx0_3 := k33.cell0 cx0_3
   replace cx0_4 := k33.cell0 cx0_4
   replace cx0_5 := k33.cell0 cx0_5
   replace cx1_0 := k33.cell0 cx1_0
   replace cx1_1 := k33.cell0 cx1_1
   replace cx1_2 := k33.cell0 cx1_2
   replace cx1_3 := k33.cell0 cx1_3
   replace cx1_4 := k33.cell0 cx1_4
   replace cx1_5 := k33.cell0 cx1_5
   replace cg0_0 := k33.cell0 cg0_0
   replace cg0_1 := k33.cell0 cg0_1
   replace cg0_2 := k33.cell0 cg0_2
   replace cg0_3 := k33.cell0 cg0_3
   replace cg0_4 := k33.cell0 cg0_4
   replace cg0_5 := k33.cell0 cg0_5
   replace K := hide ((unhide K).trans k33)
   have z34 := k33.size
   clear k33
   go_wp2_with fail
   refine (markIv_wide (G0) (H0) (G0b) (H0b) _ (1) (by omega) (by omega) (by omega) (by omega) hmag0 hmbg0 (by omega) rg0 rg0b).mono ?_
   rintro e w35 ⟨rfl, rm0, rm0b, k35⟩
   replace r0 := r0.kept k35 (by omega)
   replace r0b := r0b.kept k35 (by omega)
   replace r1 := r1.kept k35 (by omega)
   replace r1b := r1b.kept k35 (by omega)
   replace rw0 := rw0.kept k35 (by omega)
   replace rw0b := rw0b.kept k35 (by omega)
   replace A0_0 := k35.cellOut (by dsimp only; omega) A0_0
   replace A0_1 := k35.cellOut (by dsimp only; omega) A0_1
   replace A0_2 := k35.cellOut (by dsimp only; omega) A0_2
   replace A0_3 := k35.cellOut (by dsimp only; omega) A0_3
   replace A0_4 := k35.cellOut (by dsimp only; omega) A0_4
   replace A0_5 := k35.cellOut (by dsimp only; omega) A0_5
   replace A1_0 := k35.cellOut (by dsimp only; omega) A1_0
   replace A1_1 := k35.cellOut (by dsimp only; omega) A1_1
   replace A1_2 := k35.cellOut (by dsimp only; omega) A1_2
   replace A1_3 := k35.cellOut (by dsimp only; omega) A1_3
   replace A1_4 := k35.cellOut (by dsimp only; omega) A1_4
   replace A1_5 := k35.cellOut (by dsimp only; omega) A1_5
   replace cw0_0 := k35.cellOut (by dsimp only; omega) cw0_0
   replace cw0_1 := k35.cellOut (by dsimp only; omega) cw0_1
   replace cw0_2 := k35.cellOut (by dsimp only; omega) cw0_2
   replace cw0_3 := k35.cellOut (by dsimp only; omega) cw0_3
   replace cw0_4 := k35.cellOut (by dsimp only; omega) cw0_4
   replace cw0_5 := k35.cellOut (by dsimp only; omega) cw0_5
   replace cx0_0 := k35.cellOut (by dsimp only; omega) cx0_0
   replace cx0_1 := k35.cellOut (by dsimp only; omega) cx0_1
   replace cx0_2 := k35.cellOut (by dsimp only; omega) cx0_2
   replace cx0_3 := k35.cellOut (by dsimp only; omega) cx0_3
   replace cx0_4 := k35.cellOut (by dsimp only; omega) cx0_4
   replace cx0_5 := k35.cellOut (by dsimp only; omega) cx0_5
   replace cx1_0 := k35.cellOut (by dsimp only; omega) cx1_0
   replace cx1_1 := k35.cellOut (by dsimp only; omega) cx1_1
   replace cx1_2 := k35.cellOut (by dsimp only; omega) cx1_2
   replace cx1_3 := k35.cellOut (by dsimp only; omega) cx1_3
   replace cx1_4 := k35.cellOut (by dsimp only; omega) cx1_4
   replace cx1_5 := k35.cellOut (by dsimp only; omega) cx1_5
   replace cg0_0 := k35.cellOut (by dsimp only; omega) cg0_0
   replace cg0_1 := k35.cellOut (by dsimp only; omega) cg0_1
   replace cg0_2 := k35.cellOut (by dsimp only; omega) cg0_2
   replace cg0_3 := k35.cellOut (by dsimp only; omega) cg0_3
   replace cg0_4 := k35.cellOut (by dsimp only; omega) cg0_4
   replace cg0_5 := k35.cellOut (by dsimp only; omega) cg0_5
   replace K := hide ((unhide K).wide k35 (by omega))
   have z35 := k35.size
   clear k35 rg0 rg0b
   go_wp2_with fail
   refine (heldIv_any (G0) (H0) (G0b) (H0b) _ (1) (by omega) (by omega) (by omega) hq0 hq0b rm0 rm0b).mono ?_
   rintro e w36 ⟨rfl, k36⟩
   replace r0 := r0.kp k36
   replace r0b := r0b.kp k36
   replace r1 := r1.kp k36
   replace r1b := r1b.kp k36
   replace rw0 := rw0.kp k36
   replace rw0b := rw0b.kp k36
   replace rm0 := rm0.kp k36
   replace rm0b := rm0b.kp k36
   replace A0_0 := k36.cell0 A0_0
   replace A0_1 := k36.cell0 A0_1
   replace A0_2 := k36.cell0 A0_2
   replace A0_3 := k36.cell0 A0_3
   replace A0_4 := k36.cell0 A0_4
   replace A0_5 := k36.cell0 A0_5
   replace A1_0 := k36.cell0 A1_0
   replace A1_1 := k36.cell0 A1_1
   replace A1_2 := k36.cell0 A1_2
   replace A1_3 := k36.cell0 A1_3
   replace A1_4 := k36.cell0 A1_4
   replace A1_5 := k36.cell0 A1_5
   replace cw0_0 := k36.cell0 cw0_0
   replace cw0_1 := k36.cell0 cw0_1
   replace cw0_2 := k36.cell0 cw0_2
   replace cw0_3 := k36.cell0 cw0_3
   replace cw0_4 := k36.cell0 cw0_4
   replace cw0_5 := k36.cell0 cw0_5
   replace cx0_0 := k36.cell0 cx0_0
   replace cx0_1 := k36.cell0 cx0_1
   replace cx0_2 := k36.cell0 cx0_2
   replace cx0_3 := k36.cell0 cx0_3
   replace cx0_4 := k36.cell0 cx0_4
   replace cx0_5 := k36.cell0 cx0_5
   replace cx1_0 := k36.cell0 cx1_0
   replace cx1_1 := k36.cell0 cx1_1
   replace cx1_2 := k36.cell0 cx1_2
   replace cx1_3 := k36.cell0 cx1_3
   replace cx1_4 := k36.cell0 cx1_4
   replace cx1_5 := k36.cell0 cx1_5
   replace cg0_0 := k36.cell0 cg0_0
   replace cg0_1 := k36.cell0 cg0_1
   replace cg0_2 := k36.cell0 cg0_2
   replace cg0_3 := k36.cell0 cg0_3
   replace cg0_4 := k36.cell0 cg0_4
   replace cg0_5 := k36.cell0 cg0_5
   replace K := hide ((unhide K).trans k36)
   have z37 := k36.size
   clear k36
   have nq037 : ¬ (1 + ((L0.length : Int) + (L0b.length : Int))) < 0 := by omega
   go_upto_region 31 with fail
   go_cut [15, 16] (fun q0 q1 wx => ∃ X0 v0 v0b, q0 = .pointer (some ⟨X0, 0, none⟩) ∧ q1 = .bool B1 ∧ wx.cell? ⟨X0, 0, none⟩ = some (.bool G0) ∧ wx.cell? ⟨X0, 1, none⟩ = some (v0) ∧ wx.cell? ⟨X0, 2, none⟩ = some (.int .i64 H0) ∧ wx.cell? ⟨X0, 3, none⟩ = some (.bool G0b) ∧ wx.cell? ⟨X0, 4, none⟩ = some (v0b) ∧ wx.cell? ⟨X0, 5, none⟩ = some (.int .i64 H0b) ∧ Row .i64 true w36.heap.size wx.heap.size wx v0 L0 ∧ Row .i64 true w36.heap.size wx.heap.size wx v0b L0b ∧ w36.heap.size ≤ X0 ∧ X0 < wx.heap.size ∧ Kept 0 0 w36 wx)
   case first =>
    have kw := Kept.refl 0 0 w36
    have kd := (Kept.refl 0 0 w36).drew
    replace r0 := r0.kp kd
    replace r0b := r0b.kp kd
    replace r1 := r1.kp kd
    replace r1b := r1b.kp kd
    replace rw0 := rw0.kp kd
    replace rw0b := rw0b.kp kd
    replace rm0 := rm0.kp kd
    replace rm0b := rm0b.kp kd
    replace kw := kw.trans kd
    replace A0_0 := kd.cell0 A0_0
    replace A0_1 := kd.cell0 A0_1
    replace A0_2 := kd.cell0 A0_2
    replace A0_3 := kd.cell0 A0_3
    replace A0_4 := kd.cell0 A0_4
    replace A0_5 := kd.cell0 A0_5
    replace A1_0 := kd.cell0 A1_0
    replace A1_1 := kd.cell0 A1_1
    replace A1_2 := kd.cell0 A1_2
    replace A1_3 := kd.cell0 A1_3
    replace A1_4 := kd.cell0 A1_4
    replace A1_5 := kd.cell0 A1_5
    replace cw0_0 := kd.cell0 cw0_0
    replace cw0_1 := kd.cell0 cw0_1
    replace cw0_2 := kd.cell0 cw0_2
    replace cw0_3 := kd.cell0 cw0_3
    replace cw0_4 := kd.cell0 cw0_4
    replace cw0_5 := kd.cell0 cw0_5
    replace cx0_0 := kd.cell0 cx0_0
    replace cx0_1 := kd.cell0 cx0_1
    replace cx0_2 := kd.cell0 cx0_2
    replace cx0_3 := kd.cell0 cx0_3
    replace cx0_4 := kd.cell0 cx0_4
    replace cx0_5 := kd.cell0 cx0_5
    replace cx1_0 := kd.cell0 cx1_0
    replace cx1_1 := kd.cell0 cx1_1
    replace cx1_2 := kd.cell0 cx1_2
    replace cx1_3 := kd.cell0 cx1_3
    replace cx1_4 := kd.cell0 cx1_4
    replace cx1_5 := kd.cell0 cx1_5
    replace cg0_0 := kd.cell0 cg0_0
    replace cg0_1 := kd.cell0 cg0_1
    replace cg0_2 := kd.cell0 cg0_2
    replace cg0_3 := kd.cell0 cg0_3
    replace cg0_4 := kd.cell0 cg0_4
    replace cg0_5 := kd.cell0 cg0_5
    replace K := hide ((unhide K).trans kd)
    have z38 := kd.size
    clear kd
    refine wp_region_held_drew (S := (fun w' => w'.cell? ⟨w.heap.size, 0, none⟩ = some (.bool s0) ∧ w'.cell? ⟨w.heap.size, 1, none⟩ = some (.slice a0 z0.length c0) ∧ w'.cell? ⟨w.heap.size, 2, none⟩ = some (.int .i64 y0) ∧ w'.cell? ⟨w.heap.size, 3, none⟩ = some (.bool s0b) ∧ w'.cell? ⟨w.heap.size, 4, none⟩ = some (.slice a0b z0b.length c0b) ∧ w'.cell? ⟨w.heap.size, 5, none⟩ = some (.int .i64 y0b) ∧ w'.cell? ⟨w.heap.size + 1, 0, none⟩ = some (.bool s1) ∧ w'.cell? ⟨w.heap.size + 1, 1, none⟩ = some (.slice a1 z1.length c1) ∧ w'.cell? ⟨w.heap.size + 1, 2, none⟩ = some (.int .i64 y1) ∧ w'.cell? ⟨w.heap.size + 1, 3, none⟩ = some (.bool s1b) ∧ w'.cell? ⟨w.heap.size + 1, 4, none⟩ = some (.slice a1b z1b.length c1b) ∧ w'.cell? ⟨w.heap.size + 1, 5, none⟩ = some (.int .i64 y1b))) (by kernel_rfl) ?_ (fun hH => ?_)
    ·exact ⟨A0_0, A0_1, A0_2, A0_3, A0_4, A0_5, A1_0, A1_1, A1_2, A1_3, A1_4, A1_5⟩
    generalize w36.drew = wd at *
    refine wpAnyH_take (i := 0) (v := .agg #[.bool s0, .slice a0 z0.length c0, .int .i64 y0, .bool s0b, .slice a0b z0b.length c0b, .int .i64 y0b]) rfl (by kernel_rfl) (by kernel_rfl) (by kernel_rfl) (fun _ _ _ h => h) (Or.inl ⟨by rfl, ?_⟩) hH ?_
    ·intro wq hSw
     try dsimp only at hSw
     go_simp
    try simp only [Act.put, zq1, zq2, zq3, zq4, zq5, zq6]
    refine wpAnyH_take (i := 2) (v := .agg #[.bool s1, .slice a1 z1.length c1, .int .i64 y1, .bool s1b, .slice a1b z1b.length c1b, .int .i64 y1b]) rfl (by kernel_rfl) (by kernel_rfl) (by kernel_rfl) (fun _ _ _ h => h) (Or.inl ⟨by rfl, ?_⟩) hH ?_
    ·intro wq hSw
     try dsimp only at hSw
     go_simp
    try simp only [Act.put, zq1, zq2, zq3, zq4, zq5, zq6]
    refine wpAnyH_ready (rs := [1, 8]) (by kernel_rfl) (by simp) ?_
    refine AllReadyH.cons rfl (fun KK hK => ?_) (AllReadyH.cons rfl (fun KK hK => ?_) AllReadyH.nil)
    ·simp only [zq1, zq2, zq3]
     rw [if_pos (by rfl)]
     refine wps1 7 (.tmp 95) _ rfl in_toV (.agg #[.bool s0, .slice a0 z0.length c0, .int .i64 y0, .bool s0b, .slice a0b z0b.length c0b, .int .i64 y0b]) rfl (toIv_any (s0) (y0) (s0b) (y0b) _ hn0 hn0b r0 r0b) ?_
     rintro e w39 ⟨v70, v70b, mm70, rfl, r70, r70b, hma70, hmb70, k39⟩
     refine ⟨_, rfl, ?_⟩
     replace r0 := r0.kp k39
     replace r0b := r0b.kp k39
     replace r1 := r1.kp k39
     replace r1b := r1b.kp k39
     replace rw0 := rw0.kp k39
     replace rw0b := rw0b.kp k39
     replace rm0 := rm0.kp k39
     replace rm0b := rm0b.kp k39
     replace kw := kw.trans k39
     replace A0_0 := k39.cell0 A0_0
     replace A0_1 := k39.cell0 A0_1
     replace A0_2 := k39.cell0 A0_2
     replace A0_3 := k39.cell0 A0_3
     replace A0_4 := k39.cell0 A0_4
     replace A0_5 := k39.cell0 A0_5
     replace A1_0 := k39.cell0 A1_0
     replace A1_1 := k39.cell0 A1_1
     replace A1_2 := k39.cell0 A1_2
     replace A1_3 := k39.cell0 A1_3
     replace A1_4 := k39.cell0 A1_4
     replace A1_5 := k39.cell0 A1_5
     replace cw0_0 := k39.cell0 cw0_0
     replace cw0_1 := k39.cell0 cw0_1
     replace cw0_2 := k39.cell0 cw0_2
     replace cw0_3 := k39.cell0 cw0_3
     replace cw0_4 := k39.cell0 cw0_4
     replace cw0_5 := k39.cell0 cw0_5
     replace cx0_0 := k39.cell0 cx0_0
     replace cx0_1 := k39.cell0 cx0_1
     replace cx0_2 := k39.cell0 cx0_2
     replace cx0_3 := k39.cell0 cx0_3
     replace cx0_4 := k39.cell0 cx0_4
     replace cx0_5 := k39.cell0 cx0_5
     replace cx1_0 := k39.cell0 cx1_0
     replace cx1_1 := k39.cell0 cx1_1
     replace cx1_2 := k39.cell0 cx1_2
     replace cx1_3 := k39.cell0 cx1_3
     replace cx1_4 := k39.cell0 cx1_4
     replace cx1_5 := k39.cell0 cx1_5
     replace cg0_0 := k39.cell0 cg0_0
     replace cg0_1 := k39.cell0 cg0_1
     replace cg0_2 := k39.cell0 cg0_2
     replace cg0_3 := k39.cell0 cg0_3
     replace cg0_4 := k39.cell0 cg0_4
     replace cg0_5 := k39.cell0 cg0_5
     replace K := hide ((unhide K).trans k39)
     have z40 := k39.size
     clear k39
     clear hH
     refine hK.out _ _ ?_ (fun hH => ?_)
     ·exact ⟨A0_0, A0_1, A0_2, A0_3, A0_4, A0_5, A1_0, A1_1, A1_2, A1_3, A1_4, A1_5⟩
     clear hK KK
     try simp only [Act.put, zq1, zq2, zq3, zq4, zq5, zq6]
     refine wpAnyH_ready (rs := [3, 8]) (by kernel_rfl) (by simp) ?_
     refine AllReadyH.cons rfl (fun KK hK => ?_) (AllReadyH.cons rfl (fun KK hK => ?_) AllReadyH.nil)
     ·simp only [zq1, zq2, zq3]
      rw [if_pos (by rfl)]
      refine wps1 7 (.tmp 97) _ rfl in_toV (.agg #[.bool s1, .slice a1 z1.length c1, .int .i64 y1, .bool s1b, .slice a1b z1b.length c1b, .int .i64 y1b]) rfl (toIv_any (s1) (y1) (s1b) (y1b) _ hn1 hn1b r1 r1b) ?_
      rintro e w41 ⟨v71, v71b, mm71, rfl, r71, r71b, hma71, hmb71, k41⟩
      refine ⟨_, rfl, ?_⟩
      replace r0 := r0.kp k41
      replace r0b := r0b.kp k41
      replace r1 := r1.kp k41
      replace r1b := r1b.kp k41
      replace rw0 := rw0.kp k41
      replace rw0b := rw0b.kp k41
      replace rm0 := rm0.kp k41
      replace rm0b := rm0b.kp k41
      replace r70 := r70.kp k41
      replace r70b := r70b.kp k41
      replace kw := kw.trans k41
      replace A0_0 := k41.cell0 A0_0
      replace A0_1 := k41.cell0 A0_1
      replace A0_2 := k41.cell0 A0_2
      replace A0_3 := k41.cell0 A0_3
      replace A0_4 := k41.cell0 A0_4
      replace A0_5 := k41.cell0 A0_5
      replace A1_0 := k41.cell0 A1_0
      replace A1_1 := k41.cell0 A1_1
      replace A1_2 := k41.cell0 A1_2
      replace A1_3 := k41.cell0 A1_3
      replace A1_4 := k41.cell0 A1_4
      replace A1_5 := k41.cell0 A1_5
      replace cw0_0 := k41.cell0 cw0_0
      replace cw0_1 := k41.cell0 cw0_1
      replace cw0_2 := k41.cell0 cw0_2
      replace cw0_3 := k41.cell0 cw0_3
      replace cw0_4 := k41.cell0 cw0_4
      replace cw0_5 := k41.cell0 cw0_5
      replace cx0_0 := k41.cell0 cx0_0
      replace cx0_1 := k41.cell0 cx0_1
      replace cx0_2 := k41.cell0 cx0_2
      replace cx0_3 := k41.cell0 cx0_3
      replace cx0_4 := k41.cell0 cx0_4
      replace cx0_5 := k41.cell0 cx0_5
      replace cx1_0 := k41.cell0 cx1_0
      replace cx1_1 := k41.cell0 cx1_1
      replace cx1_2 := k41.cell0 cx1_2
      replace cx1_3 := k41.cell0 cx1_3
      replace cx1_4 := k41.cell0 cx1_4
      replace cx1_5 := k41.cell0 cx1_5
      replace cg0_0 := k41.cell0 cg0_0
      replace cg0_1 := k41.cell0 cg0_1
      replace cg0_2 := k41.cell0 cg0_2
      replace cg0_3 := k41.cell0 cg0_3
      replace cg0_4 := k41.cell0 cg0_4
      replace cg0_5 := k41.cell0 cg0_5
      replace K := hide ((unhide K).trans k41)
      have z42 := k41.size
      clear k41
      clear hH
      refine hK.out _ _ ?_ (fun hH => ?_)
      ·exact ⟨A0_0, A0_1, A0_2, A0_3, A0_4, A0_5, A1_0, A1_1, A1_2, A1_3, A1_4, A1_5⟩
      clear hK KK
      try simp only [Act.put, zq1, zq2, zq3, zq4, zq5, zq6]
      refine wpAnyH_ready (rs := [4, 8]) (by kernel_rfl) (by simp) ?_
      refine AllReadyH.cons rfl (fun KK hK => ?_) (AllReadyH.cons rfl (fun KK hK => ?_) AllReadyH.nil)
      ·simp only [zq1, zq2, zq3]
       rw [if_pos (by rfl)]
       have mk := (ivjoin_impl s0 y0 gy0.1 gy0.2 s0b y0b gy0b.1 gy0b.2 s1 y1 gy1.1 gy1.2 s1b y1b gy1b.1 gy1b.2 w41 r70 r70b r71 r71b (T.kept (unhide K))).mono (fun e w' h => IvAns.weak h)
       unfold IvAnsS at mk
       simp only [unhide EB1, unhide EL0, unhide EH0, unhide EG0, unhide EL0b, unhide EH0b, unhide EG0b] at mk
       refine wps2 13 (.tmp 96) (.tmp 98) _ rfl in_impl_IvJoin (.agg #[.bool s0, v70, .int .i64 y0, .bool s0b, v70b, .int .i64 y0b]) (.agg #[.bool s1, v71, .int .i64 y1, .bool s1b, v71b, .int .i64 y1b]) rfl rfl mk ?_
       rintro e w43 ⟨v90, v90b, rfl, r90, r90b, k43⟩
       refine ⟨_, rfl, ?_⟩
       clear mk
       replace r0 := r0.kp k43
       replace r0b := r0b.kp k43
       replace r1 := r1.kp k43
       replace r1b := r1b.kp k43
       replace rw0 := rw0.kp k43
       replace rw0b := rw0b.kp k43
       replace rm0 := rm0.kp k43
       replace rm0b := rm0b.kp k43
       replace r70 := r70.kp k43
       replace r70b := r70b.kp k43
       replace r71 := r71.kp k43
       replace r71b := r71b.kp k43
       replace kw := kw.trans k43
       replace A0_0 := k43.cell0 A0_0
       replace A0_1 := k43.cell0 A0_1
       replace A0_2 := k43.cell0 A0_2
       replace A0_3 := k43.cell0 A0_3
       replace A0_4 := k43.cell0 A0_4
       replace A0_5 := k43.cell0 A0_5
       replace A1_0 := k43.cell0 A1_0
       replace A1_1 := k43.cell0 A1_1
       replace A1_2 := k43.cell0 A1_2
       replace A1_3 := k43.cell0 A1_3
       replace A1_4 := k43.cell0 A1_4
       replace A1_5 := k43.cell0 A1_5
       replace cw0_0 := k43.cell0 cw0_0
       replace cw0_1 := k43.cell0 cw0_1
       replace cw0_2 := k43.cell0 cw0_2
       replace cw0_3 := k43.cell0 cw0_3
       replace cw0_4 := k43.cell0 cw0_4
       replace cw0_5 := k43.cell0 cw0_5
       replace cx0_0 := k43.cell0 cx0_0
       replace cx0_1 := k43.cell0 cx0_1
       replace cx0_2 := k43.cell0 cx0_2
       replace cx0_3 := k43.cell0 cx0_3
       replace cx0_4 := k43.cell0 cx0_4
       replace cx0_5 := k43.cell0 cx0_5
       replace cx1_0 := k43.cell0 cx1_0
       replace cx1_1 := k43.cell0 cx1_1
       replace cx1_2 := k43.cell0 cx1_2
       replace cx1_3 := k43.cell0 cx1_3
       replace cx1_4 := k43.cell0 cx1_4
       replace cx1_5 := k43.cell0 cx1_5
       replace cg0_0 := k43.cell0 cg0_0
       replace cg0_1 := k43.cell0 cg0_1
       replace cg0_2 := k43.cell0 cg0_2
       replace cg0_3 := k43.cell0 cg0_3
       replace cg0_4 := k43.cell0 cg0_4
       replace cg0_5 := k43.cell0 cg0_5
       replace K := hide ((unhide K).trans k43)
       have z44 := k43.size
       obtain ⟨a90, d90, hv⟩ := Row.form' r90
       subst hv
       obtain ⟨a90b, d90b, hv⟩ := Row.form' r90b
       subst hv
       clear k43
       clear hH
       refine hK.out _ _ ?_ (fun hH => ?_)
       ·exact ⟨A0_0, A0_1, A0_2, A0_3, A0_4, A0_5, A1_0, A1_1, A1_2, A1_3, A1_4, A1_5⟩
       clear hK KK
       try simp only [Act.put, zq1, zq2, zq3, zq4, zq5, zq6]
       refine wpAnyH_take (i := 5) (v := .tuple #[.agg #[.bool G0, .slice a90 L0.length d90, .int .i64 H0, .bool G0b, .slice a90b L0b.length d90b, .int .i64 H0b], .bool B1]) rfl (by kernel_rfl) (by kernel_rfl) (by kernel_rfl) (fun _ _ _ h => h) (Or.inl ⟨by rfl, ?_⟩) hH ?_
       ·intro wq hSw
        try dsimp only at hSw
        go_simp
       try simp only [Act.put, zq1, zq2, zq3, zq4, zq5, zq6]
       refine wpAnyH_take (i := 6) (v := .agg #[.bool G0, .slice a90 L0.length d90, .int .i64 H0, .bool G0b, .slice a90b L0b.length d90b, .int .i64 H0b]) rfl (by kernel_rfl) (by kernel_rfl) (by kernel_rfl) (fun _ _ _ h => h) (Or.inl ⟨by rfl, ?_⟩) hH ?_
       ·intro wq hSw
        try dsimp only at hSw
        go_simp
       try simp only [Act.put, zq1, zq2, zq3, zq4, zq5, zq6]
       refine wpAnyH_take (i := 7) (v := .bool B1) rfl (by kernel_rfl) (by kernel_rfl) (by kernel_rfl) (fun _ _ _ h => h) (Or.inl ⟨by rfl, ?_⟩) hH ?_
       ·intro wq hSw
        try dsimp only at hSw
        go_simp
       try simp only [Act.put, zq1, zq2, zq3, zq4, zq5, zq6]
       refine wpAnyH_ready (rs := [8]) (by kernel_rfl) (by simp) ?_
       refine AllReadyH.cons rfl (fun KK hK => ?_) AllReadyH.nil
       ·simp only [zq1, zq2, zq3]
        rw [if_pos (by rfl)]
        go_simp
        have kn := (Kept.refl 0 0 w43).alloc (.cells #[.bool false, .slice none 0 0, .int .i64 0, .bool false, .slice none 0 0, .int .i64 0] 38)
        replace r0 := r0.kp kn
        replace r0b := r0b.kp kn
        replace r1 := r1.kp kn
        replace r1b := r1b.kp kn
        replace rw0 := rw0.kp kn
        replace rw0b := rw0b.kp kn
        replace rm0 := rm0.kp kn
        replace rm0b := rm0b.kp kn
        replace r70 := r70.kp kn
        replace r70b := r70b.kp kn
        replace r71 := r71.kp kn
        replace r71b := r71b.kp kn
        replace r90 := r90.kp kn
        replace r90b := r90b.kp kn
        replace kw := kw.trans kn
        replace A0_0 := kn.cell0 A0_0
        replace A0_1 := kn.cell0 A0_1
        replace A0_2 := kn.cell0 A0_2
        replace A0_3 := kn.cell0 A0_3
        replace A0_4 := kn.cell0 A0_4
        replace A0_5 := kn.cell0 A0_5
        replace A1_0 := kn.cell0 A1_0
        replace A1_1 := kn.cell0 A1_1
        replace A1_2 := kn.cell0 A1_2
        replace A1_3 := kn.cell0 A1_3
        replace A1_4 := kn.cell0 A1_4
        replace A1_5 := kn.cell0 A1_5
        replace cw0_0 := kn.cell0 cw0_0
        replace cw0_1 := kn.cell0 cw0_1
        replace cw0_2 := kn.cell0 cw0_2
        replace cw0_3 := kn.cell0 cw0_3
        replace cw0_4 := kn.cell0 cw0_4
        replace cw0_5 := kn.cell0 cw0_5
        replace cx0_0 := kn.cell0 cx0_0
        replace cx0_1 := kn.cell0 cx0_1
        replace cx0_2 := kn.cell0 cx0_2
        replace cx0_3 := kn.cell0 cx0_3
        replace cx0_4 := kn.cell0 cx0_4
        replace cx0_5 := kn.cell0 cx0_5
        replace cx1_0 := kn.cell0 cx1_0
        replace cx1_1 := kn.cell0 cx1_1
        replace cx1_2 := kn.cell0 cx1_2
        replace cx1_3 := kn.cell0 cx1_3
        replace cx1_4 := kn.cell0 cx1_4
        replace cx1_5 := kn.cell0 cx1_5
        replace cg0_0 := kn.cell0 cg0_0
        replace cg0_1 := kn.cell0 cg0_1
        replace cg0_2 := kn.cell0 cg0_2
        replace cg0_3 := kn.cell0 cg0_3
        replace cg0_4 := kn.cell0 cg0_4
        replace cg0_5 := kn.cell0 cg0_5
        replace K := hide ((unhide K).trans kn)
        have z46 := kn.size
        clear kn
        have szx0_ : w43.heap.size < (w43.alloc (.cells #[.bool false, .slice none 0 0, .int .i64 0, .bool false, .slice none 0 0, .int .i64 0] 38)).heap.size := by simp
        have x0_0 : (w43.alloc (.cells #[.bool false, .slice none 0 0, .int .i64 0, .bool false, .slice none 0 0, .int .i64 0] 38)).cell? ⟨w43.heap.size, 0, none⟩ = some (.bool false) := new_cell2 _ _ _ _ _ _ rfl rfl
        have x0_f0 : (w43.alloc (.cells #[.bool false, .slice none 0 0, .int .i64 0, .bool false, .slice none 0 0, .int .i64 0] 38)).frozen? ⟨w43.heap.size, 0, none⟩ = false := new_loose2 _ _ _ _ _ rfl
        have x0_1 : (w43.alloc (.cells #[.bool false, .slice none 0 0, .int .i64 0, .bool false, .slice none 0 0, .int .i64 0] 38)).cell? ⟨w43.heap.size, 1, none⟩ = some (.slice none 0 0) := new_cell2 _ _ _ _ _ _ rfl rfl
        have x0_f1 : (w43.alloc (.cells #[.bool false, .slice none 0 0, .int .i64 0, .bool false, .slice none 0 0, .int .i64 0] 38)).frozen? ⟨w43.heap.size, 1, none⟩ = false := new_loose2 _ _ _ _ _ rfl
        have x0_2 : (w43.alloc (.cells #[.bool false, .slice none 0 0, .int .i64 0, .bool false, .slice none 0 0, .int .i64 0] 38)).cell? ⟨w43.heap.size, 2, none⟩ = some (.int .i64 0) := new_cell2 _ _ _ _ _ _ rfl rfl
        have x0_f2 : (w43.alloc (.cells #[.bool false, .slice none 0 0, .int .i64 0, .bool false, .slice none 0 0, .int .i64 0] 38)).frozen? ⟨w43.heap.size, 2, none⟩ = false := new_loose2 _ _ _ _ _ rfl
        have x0_3 : (w43.alloc (.cells #[.bool false, .slice none 0 0, .int .i64 0, .bool false, .slice none 0 0, .int .i64 0] 38)).cell? ⟨w43.heap.size, 3, none⟩ = some (.bool false) := new_cell2 _ _ _ _ _ _ rfl rfl
        have x0_f3 : (w43.alloc (.cells #[.bool false, .slice none 0 0, .int .i64 0, .bool false, .slice none 0 0, .int .i64 0] 38)).frozen? ⟨w43.heap.size, 3, none⟩ = false := new_loose2 _ _ _ _ _ rfl
        have x0_4 : (w43.alloc (.cells #[.bool false, .slice none 0 0, .int .i64 0, .bool false, .slice none 0 0, .int .i64 0] 38)).cell? ⟨w43.heap.size, 4, none⟩ = some (.slice none 0 0) := new_cell2 _ _ _ _ _ _ rfl rfl
        have x0_f4 : (w43.alloc (.cells #[.bool false, .slice none 0 0, .int .i64 0, .bool false, .slice none 0 0, .int .i64 0] 38)).frozen? ⟨w43.heap.size, 4, none⟩ = false := new_loose2 _ _ _ _ _ rfl
        have x0_5 : (w43.alloc (.cells #[.bool false, .slice none 0 0, .int .i64 0, .bool false, .slice none 0 0, .int .i64 0] 38)).cell? ⟨w43.heap.size, 5, none⟩ = some (.int .i64 0) := new_cell2 _ _ _ _ _ _ rfl rfl
        have x0_f5 : (w43.alloc (.cells #[.bool false, .slice none 0 0, .int .i64 0, .bool false, .slice none 0 0, .int .i64 0] 38)).frozen? ⟨w43.heap.size, 5, none⟩ = false := new_loose2 _ _ _ _ _ rfl
        clear hH
        refine hK.out _ _ ?_ (fun hH => ?_)
        ·exact ⟨A0_0, A0_1, A0_2, A0_3, A0_4, A0_5, A1_0, A1_1, A1_2, A1_3, A1_4, A1_5⟩
        clear hK KK
        try simp only [Act.put, zq1, zq2, zq3, zq4, zq5, zq6]
        generalize w43.alloc (.cells #[.bool false, .slice none 0 0, .int .i64 0, .bool false, .slice none 0 0, .int .i64 0] 38) = w45 at *
        refine wpAnyH_ready (rs := [9]) (by kernel_rfl) (by simp) ?_
        refine AllReadyH.cons rfl (fun KK hK => ?_) AllReadyH.nil
        simp only [zq1, zq2, zq3]
        rw [if_pos (by rfl)]
        go_simp
        clear hH
        refine hK.out _ _ ?_ (fun hH => ?_)
        ·exact ⟨(cw6 (by have := unhide S0; dsimp only; omega) A0_0), (cw6 (by have := unhide S0; dsimp only; omega) A0_1), (cw6 (by have := unhide S0; dsimp only; omega) A0_2), (cw6 (by have := unhide S0; dsimp only; omega) A0_3), (cw6 (by have := unhide S0; dsimp only; omega) A0_4), (cw6 (by have := unhide S0; dsimp only; omega) A0_5), (cw6 (by have := unhide S0; dsimp only; omega) A1_0), (cw6 (by have := unhide S0; dsimp only; omega) A1_1), (cw6 (by have := unhide S0; dsimp only; omega) A1_2), (cw6 (by have := unhide S0; dsimp only; omega) A1_3), (cw6 (by have := unhide S0; dsimp only; omega) A1_4), (cw6 (by have := unhide S0; dsimp only; omega) A1_5)⟩
        clear hK KK
        try simp only [Act.put, zq1, zq2, zq3, zq4, zq5, zq6]
        refine wpAnyH_take (i := 10) (v := .bool B1) rfl (by kernel_rfl) (by kernel_rfl) (by kernel_rfl) (fun _ _ _ h => h) (Or.inl ⟨by rfl, ?_⟩) hH ?_
        ·intro wq hSw
         try dsimp only at hSw
         go_simp
        try simp only [Act.put, zq1, zq2, zq3, zq4, zq5, zq6]
        refine wpAnyH_done (by kernel_rfl) ?_ _
        clear hH
        go_wp2_with fail
        go_meet
        exact ⟨_, _, _, rfl, rfl, law_setV G0 H0 G0b H0b kw x0_0 x0_1 x0_2 x0_3 x0_4 x0_5 r90 r90b (by omega) (by omega) (by omega) (by omega) (by omega)⟩
      ·simp only [zq1, zq2, zq3]
       rw [if_pos (by rfl)]
       go_simp
       have kn := (Kept.refl 0 0 w41).alloc (.cells #[.bool false, .slice none 0 0, .int .i64 0, .bool false, .slice none 0 0, .int .i64 0] 38)
       replace r0 := r0.kp kn
       replace r0b := r0b.kp kn
       replace r1 := r1.kp kn
       replace r1b := r1b.kp kn
       replace rw0 := rw0.kp kn
       replace rw0b := rw0b.kp kn
       replace rm0 := rm0.kp kn
       replace rm0b := rm0b.kp kn
       replace r70 := r70.kp kn
       replace r70b := r70b.kp kn
       replace r71 := r71.kp kn
       replace r71b := r71b.kp kn
       replace kw := kw.trans kn
       replace A0_0 := kn.cell0 A0_0
       replace A0_1 := kn.cell0 A0_1
       replace A0_2 := kn.cell0 A0_2
       replace A0_3 := kn.cell0 A0_3
       replace A0_4 := kn.cell0 A0_4
       replace A0_5 := kn.cell0 A0_5
       replace A1_0 := kn.cell0 A1_0
       replace A1_1 := kn.cell0 A1_1
       replace A1_2 := kn.cell0 A1_2
       replace A1_3 := kn.cell0 A1_3
       replace A1_4 := kn.cell0 A1_4
       replace A1_5 := kn.cell0 A1_5
       replace cw0_0 := kn.cell0 cw0_0
       replace cw0_1 := kn.cell0 cw0_1
       replace cw0_2 := kn.cell0 cw0_2
       replace cw0_3 := kn.cell0 cw0_3
       replace cw0_4 := kn.cell0 cw0_4
       replace cw0_5 := kn.cell0 cw0_5
       replace cx0_0 := kn.cell0 cx0_0
       replace cx0_1 := kn.cell0 cx0_1
       replace cx0_2 := kn.cell0 cx0_2
       replace cx0_3 := kn.cell0 cx0_3
       replace cx0_4 := kn.cell0 cx0_4
       replace cx0_5 := kn.cell0 cx0_5
       replace cx1_0 := kn.cell0 cx1_0
       replace cx1_1 := kn.cell0 cx1_1
       replace cx1_2 := kn.cell0 cx1_2
       replace cx1_3 := kn.cell0 cx1_3
       replace cx1_4 := kn.cell0 cx1_4
       replace cx1_5 := kn.cell0 cx1_5
       replace cg0_0 := kn.cell0 cg0_0
       replace cg0_1 := kn.cell0 cg0_1
       replace cg0_2 := kn.cell0 cg0_2
       replace cg0_3 := kn.cell0 cg0_3
       replace cg0_4 := kn.cell0 cg0_4
       replace cg0_5 := kn.cell0 cg0_5
       replace K := hide ((unhide K).trans kn)
       have z44 := kn.size
       clear kn
       have szx0_ : w41.heap.size < (w41.alloc (.cells #[.bool false, .slice none 0 0, .int .i64 0, .bool false, .slice none 0 0, .int .i64 0] 38)).heap.size := by simp
       have x0_0 : (w41.alloc (.cells #[.bool false, .slice none 0 0, .int .i64 0, .bool false, .slice none 0 0, .int .i64 0] 38)).cell? ⟨w41.heap.size, 0, none⟩ = some (.bool false) := new_cell2 _ _ _ _ _ _ rfl rfl
       have x0_f0 : (w41.alloc (.cells #[.bool false, .slice none 0 0, .int .i64 0, .bool false, .slice none 0 0, .int .i64 0] 38)).frozen? ⟨w41.heap.size, 0, none⟩ = false := new_loose2 _ _ _ _ _ rfl
       have x0_1 : (w41.alloc (.cells #[.bool false, .slice none 0 0, .int .i64 0, .bool false, .slice none 0 0, .int .i64 0] 38)).cell? ⟨w41.heap.size, 1, none⟩ = some (.slice none 0 0) := new_cell2 _ _ _ _ _ _ rfl rfl
       have x0_f1 : (w41.alloc (.cells #[.bool false, .slice none 0 0, .int .i64 0, .bool false, .slice none 0 0, .int .i64 0] 38)).frozen? ⟨w41.heap.size, 1, none⟩ = false := new_loose2 _ _ _ _ _ rfl
       have x0_2 : (w41.alloc (.cells #[.bool false, .slice none 0 0, .int .i64 0, .bool false, .slice none 0 0, .int .i64 0] 38)).cell? ⟨w41.heap.size, 2, none⟩ = some (.int .i64 0) := new_cell2 _ _ _ _ _ _ rfl rfl
       have x0_f2 : (w41.alloc (.cells #[.bool false, .slice none 0 0, .int .i64 0, .bool false, .slice none 0 0, .int .i64 0] 38)).frozen? ⟨w41.heap.size, 2, none⟩ = false := new_loose2 _ _ _ _ _ rfl
       have x0_3 : (w41.alloc (.cells #[.bool false, .slice none 0 0, .int .i64 0, .bool false, .slice none 0 0, .int .i64 0] 38)).cell? ⟨w41.heap.size, 3, none⟩ = some (.bool false) := new_cell2 _ _ _ _ _ _ rfl rfl
       have x0_f3 : (w41.alloc (.cells #[.bool false, .slice none 0 0, .int .i64 0, .bool false, .slice none 0 0, .int .i64 0] 38)).frozen? ⟨w41.heap.size, 3, none⟩ = false := new_loose2 _ _ _ _ _ rfl
       have x0_4 : (w41.alloc (.cells #[.bool false, .slice none 0 0, .int .i64 0, .bool false, .slice none 0 0, .int .i64 0] 38)).cell? ⟨w41.heap.size, 4, none⟩ = some (.slice none 0 0) := new_cell2 _ _ _ _ _ _ rfl rfl
       have x0_f4 : (w41.alloc (.cells #[.bool false, .slice none 0 0, .int .i64 0, .bool false, .slice none 0 0, .int .i64 0] 38)).frozen? ⟨w41.heap.size, 4, none⟩ = false := new_loose2 _ _ _ _ _ rfl
       have x0_5 : (w41.alloc (.cells #[.bool false, .slice none 0 0, .int .i64 0, .bool false, .slice none 0 0, .int .i64 0] 38)).cell? ⟨w41.heap.size, 5, none⟩ = some (.int .i64 0) := new_cell2 _ _ _ _ _ _ rfl rfl
       have x0_f5 : (w41.alloc (.cells #[.bool false, .slice none 0 0, .int .i64 0, .bool false, .slice none 0 0, .int .i64 0] 38)).frozen? ⟨w41.heap.size, 5, none⟩ = false := new_loose2 _ _ _ _ _ rfl
       clear hH
       refine hK.out _ _ ?_ (fun hH => ?_)
       ·exact ⟨A0_0, A0_1, A0_2, A0_3, A0_4, A0_5, A1_0, A1_1, A1_2, A1_3, A1_4, A1_5⟩
       clear hK KK
       try simp only [Act.put, zq1, zq2, zq3, zq4, zq5, zq6]
       generalize w41.alloc (.cells #[.bool false, .slice none 0 0, .int .i64 0, .bool false, .slice none 0 0, .int .i64 0] 38) = w43 at *
       refine wpAnyH_ready (rs := [4]) (by kernel_rfl) (by simp) ?_
       refine AllReadyH.cons rfl (fun KK hK => ?_) AllReadyH.nil
       ·simp only [zq1, zq2, zq3]
        rw [if_pos (by rfl)]
        have mk := (ivjoin_impl s0 y0 gy0.1 gy0.2 s0b y0b gy0b.1 gy0b.2 s1 y1 gy1.1 gy1.2 s1b y1b gy1b.1 gy1b.2 w43 r70 r70b r71 r71b (T.kept (unhide K))).mono (fun e w' h => IvAns.weak h)
        unfold IvAnsS at mk
        simp only [unhide EB1, unhide EL0, unhide EH0, unhide EG0, unhide EL0b, unhide EH0b, unhide EG0b] at mk
        refine wps2 13 (.tmp 96) (.tmp 98) _ rfl in_impl_IvJoin (.agg #[.bool s0, v70, .int .i64 y0, .bool s0b, v70b, .int .i64 y0b]) (.agg #[.bool s1, v71, .int .i64 y1, .bool s1b, v71b, .int .i64 y1b]) rfl rfl mk ?_
        rintro e w45 ⟨v90, v90b, rfl, r90, r90b, k45⟩
        refine ⟨_, rfl, ?_⟩
        clear mk
        replace r0 := r0.kp k45
        replace r0b := r0b.kp k45
        replace r1 := r1.kp k45
        replace r1b := r1b.kp k45
        replace rw0 := rw0.kp k45
        replace rw0b := rw0b.kp k45
        replace rm0 := rm0.kp k45
        replace rm0b := rm0b.kp k45
        replace r70 := r70.kp k45
        replace r70b := r70b.kp k45
        replace r71 := r71.kp k45
        replace r71b := r71b.kp k45
        replace kw := kw.trans k45
        replace x0_f0 := k45.loose0 (zbl x0_0) x0_f0
        replace x0_f1 := k45.loose0 (zbl x0_1) x0_f1
        replace x0_f2 := k45.loose0 (zbl x0_2) x0_f2
        replace x0_f3 := k45.loose0 (zbl x0_3) x0_f3
        replace x0_f4 := k45.loose0 (zbl x0_4) x0_f4
        replace x0_f5 := k45.loose0 (zbl x0_5) x0_f5
        replace A0_0 := k45.cell0 A0_0
        replace A0_1 := k45.cell0 A0_1
        replace A0_2 := k45.cell0 A0_2
        replace A0_3 := k45.cell0 A0_3
        replace A0_4 := k45.cell0 A0_4
        replace A0_5 := k45.cell0 A0_5
        replace A1_0 := k45.cell0 A1_0
        replace A1_1 := k45.cell0 A1_1
        replace A1_2 := k45.cell0 A1_2
        replace A1_3 := k45.cell0 A1_3
        replace A1_4 := k45.cell0 A1_4
        replace A1_5 := k45.cell0 A1_5
        replace cw0_0 := k45.cell0 cw0_0
        replace cw0_1 := k45.cell0 cw0_1
        replace cw0_2 := k45.cell0 cw0_2
        replace cw0_3 := k45.cell0 cw0_3
        replace cw0_4 := k45.cell0 cw0_4
        replace cw0_5 := k45.cell0 cw0_5
        replace cx0_0 := k45.cell0 cx0_0
        replace cx0_1 := k45.cell0 cx0_1
        replace cx0_2 := k45.cell0 cx0_2
        replace cx0_3 := k45.cell0 cx0_3
        replace cx0_4 := k45.cell0 cx0_4
        replace cx0_5 := k45.cell0 cx0_5
        replace cx1_0 := k45.cell0 cx1_0
        replace cx1_1 := k45.cell0 cx1_1
        replace cx1_2 := k45.cell0 cx1_2
        replace cx1_3 := k45.cell0 cx1_3
        replace cx1_4 := k45.cell0 cx1_4
        replace cx1_5 := k45.cell0 cx1_5
        replace cg0_0 := k45.cell0 cg0_0
        replace cg0_1 := k45.cell0 cg0_1
        replace cg0_2 := k45.cell0 cg0_2
        replace cg0_3 := k45.cell0 cg0_3
        replace cg0_4 := k45.cell0 cg0_4
        replace cg0_5 := k45.cell0 cg0_5
        replace x0_0 := k45.cell0 x0_0
        replace x0_1 := k45.cell0 x0_1
        replace x0_2 := k45.cell0 x0_2
        replace x0_3 := k45.cell0 x0_3
        replace x0_4 := k45.cell0 x0_4
        replace x0_5 := k45.cell0 x0_5
        replace K := hide ((unhide K).trans k45)
        have z46 := k45.size
        obtain ⟨a90, d90, hv⟩ := Row.form' r90
        subst hv
        obtain ⟨a90b, d90b, hv⟩ := Row.form' r90b
        subst hv
        clear k45
        clear hH
        refine hK.out _ _ ?_ (fun hH => ?_)
        ·exact ⟨A0_0, A0_1, A0_2, A0_3, A0_4, A0_5, A1_0, A1_1, A1_2, A1_3, A1_4, A1_5⟩
        clear hK KK
        try simp only [Act.put, zq1, zq2, zq3, zq4, zq5, zq6]
        refine wpAnyH_take (i := 5) (v := .tuple #[.agg #[.bool G0, .slice a90 L0.length d90, .int .i64 H0, .bool G0b, .slice a90b L0b.length d90b, .int .i64 H0b], .bool B1]) rfl (by kernel_rfl) (by kernel_rfl) (by kernel_rfl) (fun _ _ _ h => h) (Or.inl ⟨by rfl, ?_⟩) hH ?_
        ·intro wq hSw
         try dsimp only at hSw
         go_simp
        try simp only [Act.put, zq1, zq2, zq3, zq4, zq5, zq6]
        refine wpAnyH_take (i := 6) (v := .agg #[.bool G0, .slice a90 L0.length d90, .int .i64 H0, .bool G0b, .slice a90b L0b.length d90b, .int .i64 H0b]) rfl (by kernel_rfl) (by kernel_rfl) (by kernel_rfl) (fun _ _ _ h => h) (Or.inl ⟨by rfl, ?_⟩) hH ?_
        ·intro wq hSw
         try dsimp only at hSw
         go_simp
        try simp only [Act.put, zq1, zq2, zq3, zq4, zq5, zq6]
        refine wpAnyH_take (i := 7) (v := .bool B1) rfl (by kernel_rfl) (by kernel_rfl) (by kernel_rfl) (fun _ _ _ h => h) (Or.inl ⟨by rfl, ?_⟩) hH ?_
        ·intro wq hSw
         try dsimp only at hSw
         go_simp
        try simp only [Act.put, zq1, zq2, zq3, zq4, zq5, zq6]
        refine wpAnyH_ready (rs := [9]) (by kernel_rfl) (by simp) ?_
        refine AllReadyH.cons rfl (fun KK hK => ?_) AllReadyH.nil
        simp only [zq1, zq2, zq3]
        rw [if_pos (by rfl)]
        go_simp
        clear hH
        refine hK.out _ _ ?_ (fun hH => ?_)
        ·exact ⟨(cw6 (by have := unhide S0; dsimp only; omega) A0_0), (cw6 (by have := unhide S0; dsimp only; omega) A0_1), (cw6 (by have := unhide S0; dsimp only; omega) A0_2), (cw6 (by have := unhide S0; dsimp only; omega) A0_3), (cw6 (by have := unhide S0; dsimp only; omega) A0_4), (cw6 (by have := unhide S0; dsimp only; omega) A0_5), (cw6 (by have := unhide S0; dsimp only; omega) A1_0), (cw6 (by have := unhide S0; dsimp only; omega) A1_1), (cw6 (by have := unhide S0; dsimp only; omega) A1_2), (cw6 (by have := unhide S0; dsimp only; omega) A1_3), (cw6 (by have := unhide S0; dsimp only; omega) A1_4), (cw6 (by have := unhide S0; dsimp only; omega) A1_5)⟩
        clear hK KK
        try simp only [Act.put, zq1, zq2, zq3, zq4, zq5, zq6]
        refine wpAnyH_take (i := 10) (v := .bool B1) rfl (by kernel_rfl) (by kernel_rfl) (by kernel_rfl) (fun _ _ _ h => h) (Or.inl ⟨by rfl, ?_⟩) hH ?_
        ·intro wq hSw
         try dsimp only at hSw
         go_simp
        try simp only [Act.put, zq1, zq2, zq3, zq4, zq5, zq6]
        refine wpAnyH_done (by kernel_rfl) ?_ _
        clear hH
        go_wp2_with fail
        go_meet
        exact ⟨_, _, _, rfl, rfl, law_setV G0 H0 G0b H0b kw x0_0 x0_1 x0_2 x0_3 x0_4 x0_5 r90 r90b (by omega) (by omega) (by omega) (by omega) (by omega)⟩
     ·simp only [zq1, zq2, zq3]
      rw [if_pos (by rfl)]
      go_simp
      have kn := (Kept.refl 0 0 w39).alloc (.cells #[.bool false, .slice none 0 0, .int .i64 0, .bool false, .slice none 0 0, .int .i64 0] 38)
      replace r0 := r0.kp kn
      replace r0b := r0b.kp kn
      replace r1 := r1.kp kn
      replace r1b := r1b.kp kn
      replace rw0 := rw0.kp kn
      replace rw0b := rw0b.kp kn
      replace rm0 := rm0.kp kn
      replace rm0b := rm0b.kp kn
      replace r70 := r70.kp kn
      replace r70b := r70b.kp kn
      replace kw := kw.trans kn
      replace A0_0 := kn.cell0 A0_0
      replace A0_1 := kn.cell0 A0_1
      replace A0_2 := kn.cell0 A0_2
      replace A0_3 := kn.cell0 A0_3
      replace A0_4 := kn.cell0 A0_4
      replace A0_5 := kn.cell0 A0_5
      replace A1_0 := kn.cell0 A1_0
      replace A1_1 := kn.cell0 A1_1
      replace A1_2 := kn.cell0 A1_2
      replace A1_3 := kn.cell0 A1_3
      replace A1_4 := kn.cell0 A1_4
      replace A1_5 := kn.cell0 A1_5
      replace cw0_0 := kn.cell0 cw0_0
      replace cw0_1 := kn.cell0 cw0_1
      replace cw0_2 := kn.cell0 cw0_2
      replace cw0_3 := kn.cell0 cw0_3
      replace cw0_4 := kn.cell0 cw0_4
      replace cw0_5 := kn.cell0 cw0_5
      replace cx0_0 := kn.cell0 cx0_0
      replace cx0_1 := kn.cell0 cx0_1
      replace cx0_2 := kn.cell0 cx0_2
      replace cx0_3 := kn.cell0 cx0_3
      replace cx0_4 := kn.cell0 cx0_4
      replace cx0_5 := kn.cell0 cx0_5
      replace cx1_0 := kn.cell0 cx1_0
      replace cx1_1 := kn.cell0 cx1_1
      replace cx1_2 := kn.cell0 cx1_2
      replace cx1_3 := kn.cell0 cx1_3
      replace cx1_4 := kn.cell0 cx1_4
      replace cx1_5 := kn.cell0 cx1_5
      replace cg0_0 := kn.cell0 cg0_0
      replace cg0_1 := kn.cell0 cg0_1
      replace cg0_2 := kn.cell0 cg0_2
      replace cg0_3 := kn.cell0 cg0_3
      replace cg0_4 := kn.cell0 cg0_4
      replace cg0_5 := kn.cell0 cg0_5
      replace K := hide ((unhide K).trans kn)
      have z42 := kn.size
      clear kn
      have szx0_ : w39.heap.size < (w39.alloc (.cells #[.bool false, .slice none 0 0, .int .i64 0, .bool false, .slice none 0 0, .int .i64 0] 38)).heap.size := by simp
      have x0_0 : (w39.alloc (.cells #[.bool false, .slice none 0 0, .int .i64 0, .bool false, .slice none 0 0, .int .i64 0] 38)).cell? ⟨w39.heap.size, 0, none⟩ = some (.bool false) := new_cell2 _ _ _ _ _ _ rfl rfl
      have x0_f0 : (w39.alloc (.cells #[.bool false, .slice none 0 0, .int .i64 0, .bool false, .slice none 0 0, .int .i64 0] 38)).frozen? ⟨w39.heap.size, 0, none⟩ = false := new_loose2 _ _ _ _ _ rfl
      have x0_1 : (w39.alloc (.cells #[.bool false, .slice none 0 0, .int .i64 0, .bool false, .slice none 0 0, .int .i64 0] 38)).cell? ⟨w39.heap.size, 1, none⟩ = some (.slice none 0 0) := new_cell2 _ _ _ _ _ _ rfl rfl
      have x0_f1 : (w39.alloc (.cells #[.bool false, .slice none 0 0, .int .i64 0, .bool false, .slice none 0 0, .int .i64 0] 38)).frozen? ⟨w39.heap.size, 1, none⟩ = false := new_loose2 _ _ _ _ _ rfl
      have x0_2 : (w39.alloc (.cells #[.bool false, .slice none 0 0, .int .i64 0, .bool false, .slice none 0 0, .int .i64 0] 38)).cell? ⟨w39.heap.size, 2, none⟩ = some (.int .i64 0) := new_cell2 _ _ _ _ _ _ rfl rfl
      have x0_f2 : (w39.alloc (.cells #[.bool false, .slice none 0 0, .int .i64 0, .bool false, .slice none 0 0, .int .i64 0] 38)).frozen? ⟨w39.heap.size, 2, none⟩ = false := new_loose2 _ _ _ _ _ rfl
      have x0_3 : (w39.alloc (.cells #[.bool false, .slice none 0 0, .int .i64 0, .bool false, .slice none 0 0, .int .i64 0] 38)).cell? ⟨w39.heap.size, 3, none⟩ = some (.bool false) := new_cell2 _ _ _ _ _ _ rfl rfl
      have x0_f3 : (w39.alloc (.cells #[.bool false, .slice none 0 0, .int .i64 0, .bool false, .slice none 0 0, .int .i64 0] 38)).frozen? ⟨w39.heap.size, 3, none⟩ = false := new_loose2 _ _ _ _ _ rfl
      have x0_4 : (w39.alloc (.cells #[.bool false, .slice none 0 0, .int .i64 0, .bool false, .slice none 0 0, .int .i64 0] 38)).cell? ⟨w39.heap.size, 4, none⟩ = some (.slice none 0 0) := new_cell2 _ _ _ _ _ _ rfl rfl
      have x0_f4 : (w39.alloc (.cells #[.bool false, .slice none 0 0, .int .i64 0, .bool false, .slice none 0 0, .int .i64 0] 38)).frozen? ⟨w39.heap.size, 4, none⟩ = false := new_loose2 _ _ _ _ _ rfl
      have x0_5 : (w39.alloc (.cells #[.bool false, .slice none 0 0, .int .i64 0, .bool false, .slice none 0 0, .int .i64 0] 38)).cell? ⟨w39.heap.size, 5, none⟩ = some (.int .i64 0) := new_cell2 _ _ _ _ _ _ rfl rfl
      have x0_f5 : (w39.alloc (.cells #[.bool false, .slice none 0 0, .int .i64 0, .bool false, .slice none 0 0, .int .i64 0] 38)).frozen? ⟨w39.heap.size, 5, none⟩ = false := new_loose2 _ _ _ _ _ rfl
      clear hH
      refine hK.out _ _ ?_ (fun hH => ?_)
      ·exact ⟨A0_0, A0_1, A0_2, A0_3, A0_4, A0_5, A1_0, A1_1, A1_2, A1_3, A1_4, A1_5⟩
      clear hK KK
      try simp only [Act.put, zq1, zq2, zq3, zq4, zq5, zq6]
      generalize w39.alloc (.cells #[.bool false, .slice none 0 0, .int .i64 0, .bool false, .slice none 0 0, .int .i64 0] 38) = w41 at *
      refine wpAnyH_ready (rs := [3]) (by kernel_rfl) (by simp) ?_
      refine AllReadyH.cons rfl (fun KK hK => ?_) AllReadyH.nil
      ·simp only [zq1, zq2, zq3]
       rw [if_pos (by rfl)]
       refine wps1 7 (.tmp 97) _ rfl in_toV (.agg #[.bool s1, .slice a1 z1.length c1, .int .i64 y1, .bool s1b, .slice a1b z1b.length c1b, .int .i64 y1b]) rfl (toIv_any (s1) (y1) (s1b) (y1b) _ hn1 hn1b r1 r1b) ?_
       rintro e w43 ⟨v71, v71b, mm71, rfl, r71, r71b, hma71, hmb71, k43⟩
       refine ⟨_, rfl, ?_⟩
       replace r0 := r0.kp k43
       replace r0b := r0b.kp k43
       replace r1 := r1.kp k43
       replace r1b := r1b.kp k43
       replace rw0 := rw0.kp k43
       replace rw0b := rw0b.kp k43
       replace rm0 := rm0.kp k43
       replace rm0b := rm0b.kp k43
       replace r70 := r70.kp k43
       replace r70b := r70b.kp k43
       replace kw := kw.trans k43
       replace x0_f0 := k43.loose0 (zbl x0_0) x0_f0
       replace x0_f1 := k43.loose0 (zbl x0_1) x0_f1
       replace x0_f2 := k43.loose0 (zbl x0_2) x0_f2
       replace x0_f3 := k43.loose0 (zbl x0_3) x0_f3
       replace x0_f4 := k43.loose0 (zbl x0_4) x0_f4
       replace x0_f5 := k43.loose0 (zbl x0_5) x0_f5
       replace A0_0 := k43.cell0 A0_0
       replace A0_1 := k43.cell0 A0_1
       replace A0_2 := k43.cell0 A0_2
       replace A0_3 := k43.cell0 A0_3
       replace A0_4 := k43.cell0 A0_4
       replace A0_5 := k43.cell0 A0_5
       replace A1_0 := k43.cell0 A1_0
       replace A1_1 := k43.cell0 A1_1
       replace A1_2 := k43.cell0 A1_2
       replace A1_3 := k43.cell0 A1_3
       replace A1_4 := k43.cell0 A1_4
       replace A1_5 := k43.cell0 A1_5
       replace cw0_0 := k43.cell0 cw0_0
       replace cw0_1 := k43.cell0 cw0_1
       replace cw0_2 := k43.cell0 cw0_2
       replace cw0_3 := k43.cell0 cw0_3
       replace cw0_4 := k43.cell0 cw0_4
       replace cw0_5 := k43.cell0 cw0_5
       replace cx0_0 := k43.cell0 cx0_0
       replace cx0_1 := k43.cell0 cx0_1
       replace cx0_2 := k43.cell0 cx0_2
       replace cx0_3 := k43.cell0 cx0_3
       replace cx0_4 := k43.cell0 cx0_4
       replace cx0_5 := k43.cell0 cx0_5
       replace cx1_0 := k43.cell0 cx1_0
       replace cx1_1 := k43.cell0 cx1_1
       replace cx1_2 := k43.cell0 cx1_2
       replace cx1_3 := k43.cell0 cx1_3
       replace cx1_4 := k43.cell0 cx1_4
       replace cx1_5 := k43.cell0 cx1_5
       replace cg0_0 := k43.cell0 cg0_0
       replace cg0_1 := k43.cell0 cg0_1
       replace cg0_2 := k43.cell0 cg0_2
       replace cg0_3 := k43.cell0 cg0_3
       replace cg0_4 := k43.cell0 cg0_4
       replace cg0_5 := k43.cell0 cg0_5
       replace x0_0 := k43.cell0 x0_0
       replace x0_1 := k43.cell0 x0_1
       replace x0_2 := k43.cell0 x0_2
       replace x0_3 := k43.cell0 x0_3
       replace x0_4 := k43.cell0 x0_4
       replace x0_5 := k43.cell0 x0_5
       replace K := hide ((unhide K).trans k43)
       have z44 := k43.size
       clear k43
       clear hH
       refine hK.out _ _ ?_ (fun hH => ?_)
       ·exact ⟨A0_0, A0_1, A0_2, A0_3, A0_4, A0_5, A1_0, A1_1, A1_2, A1_3, A1_4, A1_5⟩
       clear hK KK
       try simp only [Act.put, zq1, zq2, zq3, zq4, zq5, zq6]
       refine wpAnyH_ready (rs := [4]) (by kernel_rfl) (by simp) ?_
       refine AllReadyH.cons rfl (fun KK hK => ?_) AllReadyH.nil
       ·simp only [zq1, zq2, zq3]
        rw [if_pos (by rfl)]
        have mk := (ivjoin_impl s0 y0 gy0.1 gy0.2 s0b y0b gy0b.1 gy0b.2 s1 y1 gy1.1 gy1.2 s1b y1b gy1b.1 gy1b.2 w43 r70 r70b r71 r71b (T.kept (unhide K))).mono (fun e w' h => IvAns.weak h)
        unfold IvAnsS at mk
        simp only [unhide EB1, unhide EL0, unhide EH0, unhide EG0, unhide EL0b, unhide EH0b, unhide EG0b] at mk
        refine wps2 13 (.tmp 96) (.tmp 98) _ rfl in_impl_IvJoin (.agg #[.bool s0, v70, .int .i64 y0, .bool s0b, v70b, .int .i64 y0b]) (.agg #[.bool s1, v71, .int .i64 y1, .bool s1b, v71b, .int .i64 y1b]) rfl rfl mk ?_
        rintro e w45 ⟨v90, v90b, rfl, r90, r90b, k45⟩
        refine ⟨_, rfl, ?_⟩
        clear mk
        replace r0 := r0.kp k45
        replace r0b := r0b.kp k45
        replace r1 := r1.kp k45
        replace r1b := r1b.kp k45
        replace rw0 := rw0.kp k45
        replace rw0b := rw0b.kp k45
        replace rm0 := rm0.kp k45
        replace rm0b := rm0b.kp k45
        replace r70 := r70.kp k45
        replace r70b := r70b.kp k45
        replace r71 := r71.kp k45
        replace r71b := r71b.kp k45
        replace kw := kw.trans k45
        replace x0_f0 := k45.loose0 (zbl x0_0) x0_f0
        replace x0_f1 := k45.loose0 (zbl x0_1) x0_f1
        replace x0_f2 := k45.loose0 (zbl x0_2) x0_f2
        replace x0_f3 := k45.loose0 (zbl x0_3) x0_f3
        replace x0_f4 := k45.loose0 (zbl x0_4) x0_f4
        replace x0_f5 := k45.loose0 (zbl x0_5) x0_f5
        replace A0_0 := k45.cell0 A0_0
        replace A0_1 := k45.cell0 A0_1
        replace A0_2 := k45.cell0 A0_2
        replace A0_3 := k45.cell0 A0_3
        replace A0_4 := k45.cell0 A0_4
        replace A0_5 := k45.cell0 A0_5
        replace A1_0 := k45.cell0 A1_0
        replace A1_1 := k45.cell0 A1_1
        replace A1_2 := k45.cell0 A1_2
        replace A1_3 := k45.cell0 A1_3
        replace A1_4 := k45.cell0 A1_4
        replace A1_5 := k45.cell0 A1_5
        replace cw0_0 := k45.cell0 cw0_0
        replace cw0_1 := k45.cell0 cw0_1
        replace cw0_2 := k45.cell0 cw0_2
        replace cw0_3 := k45.cell0 cw0_3
        replace cw0_4 := k45.cell0 cw0_4
        replace cw0_5 := k45.cell0 cw0_5
        replace cx0_0 := k45.cell0 cx0_0
        replace cx0_1 := k45.cell0 cx0_1
        replace cx0_2 := k45.cell0 cx0_2
        replace cx0_3 := k45.cell0 cx0_3
        replace cx0_4 := k45.cell0 cx0_4
        replace cx0_5 := k45.cell0 cx0_5
        replace cx1_0 := k45.cell0 cx1_0
        replace cx1_1 := k45.cell0 cx1_1
        replace cx1_2 := k45.cell0 cx1_2
        replace cx1_3 := k45.cell0 cx1_3
        replace cx1_4 := k45.cell0 cx1_4
        replace cx1_5 := k45.cell0 cx1_5
        replace cg0_0 := k45.cell0 cg0_0
        replace cg0_1 := k45.cell0 cg0_1
        replace cg0_2 := k45.cell0 cg0_2
        replace cg0_3 := k45.cell0 cg0_3
        replace cg0_4 := k45.cell0 cg0_4
        replace cg0_5 := k45.cell0 cg0_5
        replace x0_0 := k45.cell0 x0_0
        replace x0_1 := k45.cell0 x0_1
        replace x0_2 := k45.cell0 x0_2
        replace x0_3 := k45.cell0 x0_3
        replace x0_4 := k45.cell0 x0_4
        replace x0_5 := k45.cell0 x0_5
        replace K := hide ((unhide K).trans k45)
        have z46 := k45.size
        obtain ⟨a90, d90, hv⟩ := Row.form' r90
        subst hv
        obtain ⟨a90b, d90b, hv⟩ := Row.form' r90b
        subst hv
        clear k45
        clear hH
        refine hK.out _ _ ?_ (fun hH => ?_)
        ·exact ⟨A0_0, A0_1, A0_2, A0_3, A0_4, A0_5, A1_0, A1_1, A1_2, A1_3, A1_4, A1_5⟩
        clear hK KK
        try simp only [Act.put, zq1, zq2, zq3, zq4, zq5, zq6]
        refine wpAnyH_take (i := 5) (v := .tuple #[.agg #[.bool G0, .slice a90 L0.length d90, .int .i64 H0, .bool G0b, .slice a90b L0b.length d90b, .int .i64 H0b], .bool B1]) rfl (by kernel_rfl) (by kernel_rfl) (by kernel_rfl) (fun _ _ _ h => h) (Or.inl ⟨by rfl, ?_⟩) hH ?_
        ·intro wq hSw
         try dsimp only at hSw
         go_simp
        try simp only [Act.put, zq1, zq2, zq3, zq4, zq5, zq6]
        refine wpAnyH_take (i := 6) (v := .agg #[.bool G0, .slice a90 L0.length d90, .int .i64 H0, .bool G0b, .slice a90b L0b.length d90b, .int .i64 H0b]) rfl (by kernel_rfl) (by kernel_rfl) (by kernel_rfl) (fun _ _ _ h => h) (Or.inl ⟨by rfl, ?_⟩) hH ?_
        ·intro wq hSw
         try dsimp only at hSw
         go_simp
        try simp only [Act.put, zq1, zq2, zq3, zq4, zq5, zq6]
        refine wpAnyH_take (i := 7) (v := .bool B1) rfl (by kernel_rfl) (by kernel_rfl) (by kernel_rfl) (fun _ _ _ h => h) (Or.inl ⟨by rfl, ?_⟩) hH ?_
        ·intro wq hSw
         try dsimp only at hSw
         go_simp
        try simp only [Act.put, zq1, zq2, zq3, zq4, zq5, zq6]
        refine wpAnyH_ready (rs := [9]) (by kernel_rfl) (by simp) ?_
        refine AllReadyH.cons rfl (fun KK hK => ?_) AllReadyH.nil
        simp only [zq1, zq2, zq3]
        rw [if_pos (by rfl)]
        go_simp
        clear hH
        refine hK.out _ _ ?_ (fun hH => ?_)
        ·exact ⟨(cw6 (by have := unhide S0; dsimp only; omega) A0_0), (cw6 (by have := unhide S0; dsimp only; omega) A0_1), (cw6 (by have := unhide S0; dsimp only; omega) A0_2), (cw6 (by have := unhide S0; dsimp only; omega) A0_3), (cw6 (by have := unhide S0; dsimp only; omega) A0_4), (cw6 (by have := unhide S0; dsimp only; omega) A0_5), (cw6 (by have := unhide S0; dsimp only; omega) A1_0), (cw6 (by have := unhide S0; dsimp only; omega) A1_1), (cw6 (by have := unhide S0; dsimp only; omega) A1_2), (cw6 (by have := unhide S0; dsimp only; omega) A1_3), (cw6 (by have := unhide S0; dsimp only; omega) A1_4), (cw6 (by have := unhide S0; dsimp only; omega) A1_5)⟩
        clear hK KK
        try simp only [Act.put, zq1, zq2, zq3, zq4, zq5, zq6]
        refine wpAnyH_take (i := 10) (v := .bool B1) rfl (by kernel_rfl) (by kernel_rfl) (by kernel_rfl) (fun _ _ _ h => h) (Or.inl ⟨by rfl, ?_⟩) hH ?_
        ·intro wq hSw
         try dsimp only at hSw
         go_simp
        try simp only [Act.put, zq1, zq2, zq3, zq4, zq5, zq6]
        refine wpAnyH_done (by kernel_rfl) ?_ _
        clear hH
        go_wp2_with fail
        go_meet
        exact ⟨_, _, _, rfl, rfl, law_setV G0 H0 G0b H0b kw x0_0 x0_1 x0_2 x0_3 x0_4 x0_5 r90 r90b (by omega) (by omega) (by omega) (by omega) (by omega)⟩
    ·simp only [zq1, zq2, zq3]
     rw [if_pos (by rfl)]
     go_simp
     have kn := (Kept.refl 0 0 wd).alloc (.cells #[.bool false, .slice none 0 0, .int .i64 0, .bool false, .slice none 0 0, .int .i64 0] 38)
     replace r0 := r0.kp kn
     replace r0b := r0b.kp kn
     replace r1 := r1.kp kn
     replace r1b := r1b.kp kn
     replace rw0 := rw0.kp kn
     replace rw0b := rw0b.kp kn
     replace rm0 := rm0.kp kn
     replace rm0b := rm0b.kp kn
     replace kw := kw.trans kn
     replace A0_0 := kn.cell0 A0_0
     replace A0_1 := kn.cell0 A0_1
     replace A0_2 := kn.cell0 A0_2
     replace A0_3 := kn.cell0 A0_3
     replace A0_4 := kn.cell0 A0_4
     replace A0_5 := kn.cell0 A0_5
     replace A1_0 := kn.cell0 A1_0
     replace A1_1 := kn.cell0 A1_1
     replace A1_2 := kn.cell0 A1_2
     replace A1_3 := kn.cell0 A1_3
     replace A1_4 := kn.cell0 A1_4
     replace A1_5 := kn.cell0 A1_5
     replace cw0_0 := kn.cell0 cw0_0
     replace cw0_1 := kn.cell0 cw0_1
     replace cw0_2 := kn.cell0 cw0_2
     replace cw0_3 := kn.cell0 cw0_3
     replace cw0_4 := kn.cell0 cw0_4
     replace cw0_5 := kn.cell0 cw0_5
     replace cx0_0 := kn.cell0 cx0_0
     replace cx0_1 := kn.cell0 cx0_1
     replace cx0_2 := kn.cell0 cx0_2
     replace cx0_3 := kn.cell0 cx0_3
     replace cx0_4 := kn.cell0 cx0_4
     replace cx0_5 := kn.cell0 cx0_5
     replace cx1_0 := kn.cell0 cx1_0
     replace cx1_1 := kn.cell0 cx1_1
     replace cx1_2 := kn.cell0 cx1_2
     replace cx1_3 := kn.cell0 cx1_3
     replace cx1_4 := kn.cell0 cx1_4
     replace cx1_5 := kn.cell0 cx1_5
     replace cg0_0 := kn.cell0 cg0_0
     replace cg0_1 := kn.cell0 cg0_1
     replace cg0_2 := kn.cell0 cg0_2
     replace cg0_3 := kn.cell0 cg0_3
     replace cg0_4 := kn.cell0 cg0_4
     replace cg0_5 := kn.cell0 cg0_5
     replace K := hide ((unhide K).trans kn)
     have z40 := kn.size
     clear kn
     have szx0_ : wd.heap.size < (wd.alloc (.cells #[.bool false, .slice none 0 0, .int .i64 0, .bool false, .slice none 0 0, .int .i64 0] 38)).heap.size := by simp
     have x0_0 : (wd.alloc (.cells #[.bool false, .slice none 0 0, .int .i64 0, .bool false, .slice none 0 0, .int .i64 0] 38)).cell? ⟨wd.heap.size, 0, none⟩ = some (.bool false) := new_cell2 _ _ _ _ _ _ rfl rfl
     have x0_f0 : (wd.alloc (.cells #[.bool false, .slice none 0 0, .int .i64 0, .bool false, .slice none 0 0, .int .i64 0] 38)).frozen? ⟨wd.heap.size, 0, none⟩ = false := new_loose2 _ _ _ _ _ rfl
     have x0_1 : (wd.alloc (.cells #[.bool false, .slice none 0 0, .int .i64 0, .bool false, .slice none 0 0, .int .i64 0] 38)).cell? ⟨wd.heap.size, 1, none⟩ = some (.slice none 0 0) := new_cell2 _ _ _ _ _ _ rfl rfl
     have x0_f1 : (wd.alloc (.cells #[.bool false, .slice none 0 0, .int .i64 0, .bool false, .slice none 0 0, .int .i64 0] 38)).frozen? ⟨wd.heap.size, 1, none⟩ = false := new_loose2 _ _ _ _ _ rfl
     have x0_2 : (wd.alloc (.cells #[.bool false, .slice none 0 0, .int .i64 0, .bool false, .slice none 0 0, .int .i64 0] 38)).cell? ⟨wd.heap.size, 2, none⟩ = some (.int .i64 0) := new_cell2 _ _ _ _ _ _ rfl rfl
     have x0_f2 : (wd.alloc (.cells #[.bool false, .slice none 0 0, .int .i64 0, .bool false, .slice none 0 0, .int .i64 0] 38)).frozen? ⟨wd.heap.size, 2, none⟩ = false := new_loose2 _ _ _ _ _ rfl
     have x0_3 : (wd.alloc (.cells #[.bool false, .slice none 0 0, .int .i64 0, .bool false, .slice none 0 0, .int .i64 0] 38)).cell? ⟨wd.heap.size, 3, none⟩ = some (.bool false) := new_cell2 _ _ _ _ _ _ rfl rfl
     have x0_f3 : (wd.alloc (.cells #[.bool false, .slice none 0 0, .int .i64 0, .bool false, .slice none 0 0, .int .i64 0] 38)).frozen? ⟨wd.heap.size, 3, none⟩ = false := new_loose2 _ _ _ _ _ rfl
     have x0_4 : (wd.alloc (.cells #[.bool false, .slice none 0 0, .int .i64 0, .bool false, .slice none 0 0, .int .i64 0] 38)).cell? ⟨wd.heap.size, 4, none⟩ = some (.slice none 0 0) := new_cell2 _ _ _ _ _ _ rfl rfl
     have x0_f4 : (wd.alloc (.cells #[.bool false, .slice none 0 0, .int .i64 0, .bool false, .slice none 0 0, .int .i64 0] 38)).frozen? ⟨wd.heap.size, 4, none⟩ = false := new_loose2 _ _ _ _ _ rfl
     have x0_5 : (wd.alloc (.cells #[.bool false, .slice none 0 0, .int .i64 0, .bool false, .slice none 0 0, .int .i64 0] 38)).cell? ⟨wd.heap.size, 5, none⟩ = some (.int .i64 0) := new_cell2 _ _ _ _ _ _ rfl rfl
     have x0_f5 : (wd.alloc (.cells #[.bool false, .slice none 0 0, .int .i64 0, .bool false, .slice none 0 0, .int .i64 0] 38)).frozen? ⟨wd.heap.size, 5, none⟩ = false := new_loose2 _ _ _ _ _ rfl
     clear hH
     refine hK.out _ _ ?_ (fun hH => ?_)
     ·exact ⟨A0_0, A0_1, A0_2, A0_3, A0_4, A0_5, A1_0, A1_1, A1_2, A1_3, A1_4, A1_5⟩
     clear hK KK
     try simp only [Act.put, zq1, zq2, zq3, zq4, zq5, zq6]
     generalize wd.alloc (.cells #[.bool false, .slice none 0 0, .int .i64 0, .bool false, .slice none 0 0, .int .i64 0] 38) = w39 at *
     refine wpAnyH_ready (rs := [1]) (by kernel_rfl) (by simp) ?_
     refine AllReadyH.cons rfl (fun KK hK => ?_) AllReadyH.nil
     ·simp only [zq1, zq2, zq3]
      rw [if_pos (by rfl)]
      refine wps1 7 (.tmp 95) _ rfl in_toV (.agg #[.bool s0, .slice a0 z0.length c0, .int .i64 y0, .bool s0b, .slice a0b z0b.length c0b, .int .i64 y0b]) rfl (toIv_any (s0) (y0) (s0b) (y0b) _ hn0 hn0b r0 r0b) ?_
      rintro e w41 ⟨v70, v70b, mm70, rfl, r70, r70b, hma70, hmb70, k41⟩
      refine ⟨_, rfl, ?_⟩
      replace r0 := r0.kp k41
      replace r0b := r0b.kp k41
      replace r1 := r1.kp k41
      replace r1b := r1b.kp k41
      replace rw0 := rw0.kp k41
      replace rw0b := rw0b.kp k41
      replace rm0 := rm0.kp k41
      replace rm0b := rm0b.kp k41
      replace kw := kw.trans k41
      replace x0_f0 := k41.loose0 (zbl x0_0) x0_f0
      replace x0_f1 := k41.loose0 (zbl x0_1) x0_f1
      replace x0_f2 := k41.loose0 (zbl x0_2) x0_f2
      replace x0_f3 := k41.loose0 (zbl x0_3) x0_f3
      replace x0_f4 := k41.loose0 (zbl x0_4) x0_f4
      replace x0_f5 := k41.loose0 (zbl x0_5) x0_f5
      replace A0_0 := k41.cell0 A0_0
      replace A0_1 := k41.cell0 A0_1
      replace A0_2 := k41.cell0 A0_2
      replace A0_3 := k41.cell0 A0_3
      replace A0_4 := k41.cell0 A0_4
      replace A0_5 := k41.cell0 A0_5
      replace A1_0 := k41.cell0 A1_0
      replace A1_1 := k41.cell0 A1_1
      replace A1_2 := k41.cell0 A1_2
      replace A1_3 := k41.cell0 A1_3
      replace A1_4 := k41.cell0 A1_4
      replace A1_5 := k41.cell0 A1_5
      replace cw0_0 := k41.cell0 cw0_0
      replace cw0_1 := k41.cell0 cw0_1
      replace cw0_2 := k41.cell0 cw0_2
      replace cw0_3 := k41.cell0 cw0_3
      replace cw0_4 := k41.cell0 cw0_4
      replace cw0_5 := k41.cell0 cw0_5
      replace cx0_0 := k41.cell0 cx0_0
      replace cx0_1 := k41.cell0 cx0_1
      replace cx0_2 := k41.cell0 cx0_2
      replace cx0_3 := k41.cell0 cx0_3
      replace cx0_4 := k41.cell0 cx0_4
      replace cx0_5 := k41.cell0 cx0_5
      replace cx1_0 := k41.cell0 cx1_0
      replace cx1_1 := k41.cell0 cx1_1
      replace cx1_2 := k41.cell0 cx1_2
      replace cx1_3 := k41.cell0 cx1_3
      replace cx1_4 := k41.cell0 cx1_4
      replace cx1_5 := k41.cell0 cx1_5
      replace cg0_0 := k41.cell0 cg0_0
      replace cg0_1 := k41.cell0 cg0_1
      replace cg0_2 := k41.cell0 cg0_2
      replace cg0_3 := k41.cell0 cg0_3
      replace cg0_4 := k41.cell0 cg0_4
      replace cg0_5 := k41.cell0 cg0_5
      replace x0_0 := k41.cell0 x0_0
      replace x0_1 := k41.cell0 x0_1
      replace x0_2 := k41.cell0 x0_2
      replace x0_3 := k41.cell0 x0_3
      replace x0_4 := k41.cell0 x0_4
      replace x0_5 := k41.cell0 x0_5
      replace K := hide ((unhide K).trans k41)
      have z42 := k41.size
      clear k41
      clear hH
      refine hK.out _ _ ?_ (fun hH => ?_)
      ·exact ⟨A0_0, A0_1, A0_2, A0_3, A0_4, A0_5, A1_0, A1_1, A1_2, A1_3, A1_4, A1_5⟩
      clear hK KK
      try simp only [Act.put, zq1, zq2, zq3, zq4, zq5, zq6]
      refine wpAnyH_ready (rs := [3]) (by kernel_rfl) (by simp) ?_
      refine AllReadyH.cons rfl (fun KK hK => ?_) AllReadyH.nil
      ·simp only [zq1, zq2, zq3]
       rw [if_pos (by rfl)]
       refine wps1 7 (.tmp 97) _ rfl in_toV (.agg #[.bool s1, .slice a1 z1.length c1, .int .i64 y1, .bool s1b, .slice a1b z1b.length c1b, .int .i64 y1b]) rfl (toIv_any (s1) (y1) (s1b) (y1b) _ hn1 hn1b r1 r1b) ?_
       rintro e w43 ⟨v71, v71b, mm71, rfl, r71, r71b, hma71, hmb71, k43⟩
       refine ⟨_, rfl, ?_⟩
       replace r0 := r0.kp k43
       replace r0b := r0b.kp k43
       replace r1 := r1.kp k43
       replace r1b := r1b.kp k43
       replace rw0 := rw0.kp k43
       replace rw0b := rw0b.kp k43
       replace rm0 := rm0.kp k43
       replace rm0b := rm0b.kp k43
       replace r70 := r70.kp k43
       replace r70b := r70b.kp k43
       replace kw := kw.trans k43
       replace x0_f0 := k43.loose0 (zbl x0_0) x0_f0
       replace x0_f1 := k43.loose0 (zbl x0_1) x0_f1
       replace x0_f2 := k43.loose0 (zbl x0_2) x0_f2
       replace x0_f3 := k43.loose0 (zbl x0_3) x0_f3
       replace x0_f4 := k43.loose0 (zbl x0_4) x0_f4
       replace x0_f5 := k43.loose0 (zbl x0_5) x0_f5
       replace A0_0 := k43.cell0 A0_0
       replace A0_1 := k43.cell0 A0_1
       replace A0_2 := k43.cell0 A0_2
       replace A0_3 := k43.cell0 A0_3
       replace A0_4 := k43.cell0 A0_4
       replace A0_5 := k43.cell0 A0_5
       replace A1_0 := k43.cell0 A1_0
       replace A1_1 := k43.cell0 A1_1
       replace A1_2 := k43.cell0 A1_2
       replace A1_3 := k43.cell0 A1_3
       replace A1_4 := k43.cell0 A1_4
       replace A1_5 := k43.cell0 A1_5
       replace cw0_0 := k43.cell0 cw0_0
       replace cw0_1 := k43.cell0 cw0_1
       replace cw0_2 := k43.cell0 cw0_2
       replace cw0_3 := k43.cell0 cw0_3
       replace cw0_4 := k43.cell0 cw0_4
       replace cw0_5 := k43.cell0 cw0_5
       replace cx0_0 := k43.cell0 cx0_0
       replace cx0_1 := k43.cell0 cx0_1
       replace cx0_2 := k43.cell0 cx0_2
       replace cx0_3 := k43.cell0 cx0_3
       replace cx0_4 := k43.cell0 cx0_4
       replace cx0_5 := k43.cell0 cx0_5
       replace cx1_0 := k43.cell0 cx1_0
       replace cx1_1 := k43.cell0 cx1_1
       replace cx1_2 := k43.cell0 cx1_2
       replace cx1_3 := k43.cell0 cx1_3
       replace cx1_4 := k43.cell0 cx1_4
       replace cx1_5 := k43.cell0 cx1_5
       replace cg0_0 := k43.cell0 cg0_0
       replace cg0_1 := k43.cell0 cg0_1
       replace cg0_2 := k43.cell0 cg0_2
       replace cg0_3 := k43.cell0 cg0_3
       replace cg0_4 := k43.cell0 cg0_4
       replace cg0_5 := k43.cell0 cg0_5
       replace x0_0 := k43.cell0 x0_0
       replace x0_1 := k43.cell0 x0_1
       replace x0_2 := k43.cell0 x0_2
       replace x0_3 := k43.cell0 x0_3
       replace x0_4 := k43.cell0 x0_4
       replace x0_5 := k43.cell0 x0_5
       replace K := hide ((unhide K).trans k43)
       have z44 := k43.size
       clear k43
       clear hH
       refine hK.out _ _ ?_ (fun hH => ?_)
       ·exact ⟨A0_0, A0_1, A0_2, A0_3, A0_4, A0_5, A1_0, A1_1, A1_2, A1_3, A1_4, A1_5⟩
       clear hK KK
       try simp only [Act.put, zq1, zq2, zq3, zq4, zq5, zq6]
       refine wpAnyH_ready (rs := [4]) (by kernel_rfl) (by simp) ?_
       refine AllReadyH.cons rfl (fun KK hK => ?_) AllReadyH.nil
       ·simp only [zq1, zq2, zq3]
        rw [if_pos (by rfl)]
        have mk := (ivjoin_impl s0 y0 gy0.1 gy0.2 s0b y0b gy0b.1 gy0b.2 s1 y1 gy1.1 gy1.2 s1b y1b gy1b.1 gy1b.2 w43 r70 r70b r71 r71b (T.kept (unhide K))).mono (fun e w' h => IvAns.weak h)
        unfold IvAnsS at mk
        simp only [unhide EB1, unhide EL0, unhide EH0, unhide EG0, unhide EL0b, unhide EH0b, unhide EG0b] at mk
        refine wps2 13 (.tmp 96) (.tmp 98) _ rfl in_impl_IvJoin (.agg #[.bool s0, v70, .int .i64 y0, .bool s0b, v70b, .int .i64 y0b]) (.agg #[.bool s1, v71, .int .i64 y1, .bool s1b, v71b, .int .i64 y1b]) rfl rfl mk ?_
        rintro e w45 ⟨v90, v90b, rfl, r90, r90b, k45⟩
        refine ⟨_, rfl, ?_⟩
        clear mk
        replace r0 := r0.kp k45
        replace r0b := r0b.kp k45
        replace r1 := r1.kp k45
        replace r1b := r1b.kp k45
        replace rw0 := rw0.kp k45
        replace rw0b := rw0b.kp k45
        replace rm0 := rm0.kp k45
        replace rm0b := rm0b.kp k45
        replace r70 := r70.kp k45
        replace r70b := r70b.kp k45
        replace r71 := r71.kp k45
        replace r71b := r71b.kp k45
        replace kw := kw.trans k45
        replace x0_f0 := k45.loose0 (zbl x0_0) x0_f0
        replace x0_f1 := k45.loose0 (zbl x0_1) x0_f1
        replace x0_f2 := k45.loose0 (zbl x0_2) x0_f2
        replace x0_f3 := k45.loose0 (zbl x0_3) x0_f3
        replace x0_f4 := k45.loose0 (zbl x0_4) x0_f4
        replace x0_f5 := k45.loose0 (zbl x0_5) x0_f5
        replace A0_0 := k45.cell0 A0_0
        replace A0_1 := k45.cell0 A0_1
        replace A0_2 := k45.cell0 A0_2
        replace A0_3 := k45.cell0 A0_3
        replace A0_4 := k45.cell0 A0_4
        replace A0_5 := k45.cell0 A0_5
        replace A1_0 := k45.cell0 A1_0
        replace A1_1 := k45.cell0 A1_1
        replace A1_2 := k45.cell0 A1_2
        replace A1_3 := k45.cell0 A1_3
        replace A1_4 := k45.cell0 A1_4
        replace A1_5 := k45.cell0 A1_5
        replace cw0_0 := k45.cell0 cw0_0
        replace cw0_1 := k45.cell0 cw0_1
        replace cw0_2 := k45.cell0 cw0_2
        replace cw0_3 := k45.cell0 cw0_3
        replace cw0_4 := k45.cell0 cw0_4
        replace cw0_5 := k45.cell0 cw0_5
        replace cx0_0 := k45.cell0 cx0_0
        replace cx0_1 := k45.cell0 cx0_1
        replace cx0_2 := k45.cell0 cx0_2
        replace cx0_3 := k45.cell0 cx0_3
        replace cx0_4 := k45.cell0 cx0_4
        replace cx0_5 := k45.cell0 cx0_5
        replace cx1_0 := k45.cell0 cx1_0
        replace cx1_1 := k45.cell0 cx1_1
        replace cx1_2 := k45.cell0 cx1_2
        replace cx1_3 := k45.cell0 cx1_3
        replace cx1_4 := k45.cell0 cx1_4
        replace cx1_5 := k45.cell0 cx1_5
        replace cg0_0 := k45.cell0 cg0_0
        replace cg0_1 := k45.cell0 cg0_1
        replace cg0_2 := k45.cell0 cg0_2
        replace cg0_3 := k45.cell0 cg0_3
        replace cg0_4 := k45.cell0 cg0_4
        replace cg0_5 := k45.cell0 cg0_5
        replace x0_0 := k45.cell0 x0_0
        replace x0_1 := k45.cell0 x0_1
        replace x0_2 := k45.cell0 x0_2
        replace x0_3 := k45.cell0 x0_3
        replace x0_4 := k45.cell0 x0_4
        replace x0_5 := k45.cell0 x0_5
        replace K := hide ((unhide K).trans k45)
        have z46 := k45.size
        obtain ⟨a90, d90, hv⟩ := Row.form' r90
        subst hv
        obtain ⟨a90b, d90b, hv⟩ := Row.form' r90b
        subst hv
        clear k45
        clear hH
        refine hK.out _ _ ?_ (fun hH => ?_)
        ·exact ⟨A0_0, A0_1, A0_2, A0_3, A0_4, A0_5, A1_0, A1_1, A1_2, A1_3, A1_4, A1_5⟩
        clear hK KK
        try simp only [Act.put, zq1, zq2, zq3, zq4, zq5, zq6]
        refine wpAnyH_take (i := 5) (v := .tuple #[.agg #[.bool G0, .slice a90 L0.length d90, .int .i64 H0, .bool G0b, .slice a90b L0b.length d90b, .int .i64 H0b], .bool B1]) rfl (by kernel_rfl) (by kernel_rfl) (by kernel_rfl) (fun _ _ _ h => h) (Or.inl ⟨by rfl, ?_⟩) hH ?_
        ·intro wq hSw
         try dsimp only at hSw
         go_simp
        try simp only [Act.put, zq1, zq2, zq3, zq4, zq5, zq6]
        refine wpAnyH_take (i := 6) (v := .agg #[.bool G0, .slice a90 L0.length d90, .int .i64 H0, .bool G0b, .slice a90b L0b.length d90b, .int .i64 H0b]) rfl (by kernel_rfl) (by kernel_rfl) (by kernel_rfl) (fun _ _ _ h => h) (Or.inl ⟨by rfl, ?_⟩) hH ?_
        ·intro wq hSw
         try dsimp only at hSw
         go_simp
        try simp only [Act.put, zq1, zq2, zq3, zq4, zq5, zq6]
        refine wpAnyH_take (i := 7) (v := .bool B1) rfl (by kernel_rfl) (by kernel_rfl) (by kernel_rfl) (fun _ _ _ h => h) (Or.inl ⟨by rfl, ?_⟩) hH ?_
        ·intro wq hSw
         try dsimp only at hSw
         go_simp
        try simp only [Act.put, zq1, zq2, zq3, zq4, zq5, zq6]
        refine wpAnyH_ready (rs := [9]) (by kernel_rfl) (by simp) ?_
        refine AllReadyH.cons rfl (fun KK hK => ?_) AllReadyH.nil
        simp only [zq1, zq2, zq3]
        rw [if_pos (by rfl)]
        go_simp
        clear hH
        refine hK.out _ _ ?_ (fun hH => ?_)
        ·exact ⟨(cw6 (by have := unhide S0; dsimp only; omega) A0_0), (cw6 (by have := unhide S0; dsimp only; omega) A0_1), (cw6 (by have := unhide S0; dsimp only; omega) A0_2), (cw6 (by have := unhide S0; dsimp only; omega) A0_3), (cw6 (by have := unhide S0; dsimp only; omega) A0_4), (cw6 (by have := unhide S0; dsimp only; omega) A0_5), (cw6 (by have := unhide S0; dsimp only; omega) A1_0), (cw6 (by have := unhide S0; dsimp only; omega) A1_1), (cw6 (by have := unhide S0; dsimp only; omega) A1_2), (cw6 (by have := unhide S0; dsimp only; omega) A1_3), (cw6 (by have := unhide S0; dsimp only; omega) A1_4), (cw6 (by have := unhide S0; dsimp only; omega) A1_5)⟩
        clear hK KK
        try simp only [Act.put, zq1, zq2, zq3, zq4, zq5, zq6]
        refine wpAnyH_take (i := 10) (v := .bool B1) rfl (by kernel_rfl) (by kernel_rfl) (by kernel_rfl) (fun _ _ _ h => h) (Or.inl ⟨by rfl, ?_⟩) hH ?_
        ·intro wq hSw
         try dsimp only at hSw
         go_simp
        try simp only [Act.put, zq1, zq2, zq3, zq4, zq5, zq6]
        refine wpAnyH_done (by kernel_rfl) ?_ _
        clear hH
        go_wp2_with fail
        go_meet
        exact ⟨_, _, _, rfl, rfl, law_setV G0 H0 G0b H0b kw x0_0 x0_1 x0_2 x0_3 x0_4 x0_5 r90 r90b (by omega) (by omega) (by omega) (by omega) (by omega)⟩
   case rest =>
    obtain ⟨Xh0, vh0, vh0b, rfl, rfl, ch0_0, ch0_1, ch0_2, ch0_3, ch0_4, ch0_5, rh0, rh0b, hXh0, hYh0, kk⟩ := hcut
    replace r0 := r0.kp kk
    replace r0b := r0b.kp kk
    replace r1 := r1.kp kk
    replace r1b := r1b.kp kk
    replace rw0 := rw0.kp kk
    replace rw0b := rw0b.kp kk
    replace rm0 := rm0.kp kk
    replace rm0b := rm0b.kp kk
    replace A0_0 := kk.cell0 A0_0
    replace A0_1 := kk.cell0 A0_1
    replace A0_2 := kk.cell0 A0_2
    replace A0_3 := kk.cell0 A0_3
    replace A0_4 := kk.cell0 A0_4
    replace A0_5 := kk.cell0 A0_5
    replace A1_0 := kk.cell0 A1_0
    replace A1_1 := kk.cell0 A1_1
    replace A1_2 := kk.cell0 A1_2
    replace A1_3 := kk.cell0 A1_3
    replace A1_4 := kk.cell0 A1_4
    replace A1_5 := kk.cell0 A1_5
    replace cw0_0 := kk.cell0 cw0_0
    replace cw0_1 := kk.cell0 cw0_1
    replace cw0_2 := kk.cell0 cw0_2
    replace cw0_3 := kk.cell0 cw0_3
    replace cw0_4 := kk.cell0 cw0_4
    replace cw0_5 := kk.cell0 cw0_5
    replace cx0_0 := kk.cell0 cx0_0
    replace cx0_1 := kk.cell0 cx0_1
    replace cx0_2 := kk.cell0 cx0_2
    replace cx0_3 := kk.cell0 cx0_3
    replace cx0_4 := kk.cell0 cx0_4
    replace cx0_5 := kk.cell0 cx0_5
    replace cx1_0 := kk.cell0 cx1_0
    replace cx1_1 := kk.cell0 cx1_1
    replace cx1_2 := kk.cell0 cx1_2
    replace cx1_3 := kk.cell0 cx1_3
    replace cx1_4 := kk.cell0 cx1_4
    replace cx1_5 := kk.cell0 cx1_5
    replace cg0_0 := kk.cell0 cg0_0
    replace cg0_1 := kk.cell0 cg0_1
    replace cg0_2 := kk.cell0 cg0_2
    replace cg0_3 := kk.cell0 cg0_3
    replace cg0_4 := kk.cell0 cg0_4
    replace cg0_5 := kk.cell0 cg0_5
    replace K := hide ((unhide K).trans kk)
    have z38 := kk.size
    clear kk
    obtain ⟨ah0, dh0, hv⟩ := Row.form' rh0
    subst hv
    obtain ⟨ah0b, dh0b, hv⟩ := Row.form' rh0b
    subst hv
    generalize hwc : wc = we39 at *
    clear hwc
    go_wp2_with fail
    refine (eqIv_same (G0) (H0) (G0b) (H0b) _ rh0 rh0b rw0 rw0b).mono ?_
    rintro e w40 ⟨rfl, k40⟩
    replace r0 := r0.kp k40
    replace r0b := r0b.kp k40
    replace r1 := r1.kp k40
    replace r1b := r1b.kp k40
    replace rw0 := rw0.kp k40
    replace rw0b := rw0b.kp k40
    replace rm0 := rm0.kp k40
    replace rm0b := rm0b.kp k40
    replace rh0 := rh0.kp k40
    replace rh0b := rh0b.kp k40
    replace A0_0 := k40.cell0 A0_0
    replace A0_1 := k40.cell0 A0_1
    replace A0_2 := k40.cell0 A0_2
    replace A0_3 := k40.cell0 A0_3
    replace A0_4 := k40.cell0 A0_4
    replace A0_5 := k40.cell0 A0_5
    replace A1_0 := k40.cell0 A1_0
    replace A1_1 := k40.cell0 A1_1
    replace A1_2 := k40.cell0 A1_2
    replace A1_3 := k40.cell0 A1_3
    replace A1_4 := k40.cell0 A1_4
    replace A1_5 := k40.cell0 A1_5
    replace cw0_0 := k40.cell0 cw0_0
    replace cw0_1 := k40.cell0 cw0_1
    replace cw0_2 := k40.cell0 cw0_2
    replace cw0_3 := k40.cell0 cw0_3
    replace cw0_4 := k40.cell0 cw0_4
    replace cw0_5 := k40.cell0 cw0_5
    replace cx0_0 := k40.cell0 cx0_0
    replace cx0_1 := k40.cell0 cx0_1
    replace cx0_2 := k40.cell0 cx0_2
    replace cx0_3 := k40.cell0 cx0_3
    replace cx0_4 := k40.cell0 cx0_4
    replace cx0_5 := k40.cell0 cx0_5
    replace cx1_0 := k40.cell0 cx1_0
    replace cx1_1 := k40.cell0 cx1_1
    replace cx1_2 := k40.cell0 cx1_2
    replace cx1_3 := k40.cell0 cx1_3
    replace cx1_4 := k40.cell0 cx1_4
    replace cx1_5 := k40.cell0 cx1_5
    replace cg0_0 := k40.cell0 cg0_0
    replace cg0_1 := k40.cell0 cg0_1
    replace cg0_2 := k40.cell0 cg0_2
    replace cg0_3 := k40.cell0 cg0_3
    replace cg0_4 := k40.cell0 cg0_4
    replace cg0_5 := k40.cell0 cg0_5
    replace ch0_0 := k40.cell0 ch0_0
    replace ch0_1 := k40.cell0 ch0_1
    replace ch0_2 := k40.cell0 ch0_2
    replace ch0_3 := k40.cell0 ch0_3
    replace ch0_4 := k40.cell0 ch0_4
    replace ch0_5 := k40.cell0 ch0_5
    replace K := hide ((unhide K).trans k40)
    have z41 := k40.size
    clear k40
    go_wp2_with fail
    refine (heldIv_any (G0) (H0) (G0b) (H0b) _ (1) (by omega) (by omega) (by omega) hq0 hq0b rm0 rm0b).mono ?_
    rintro e w42 ⟨rfl, k42⟩
    replace r0 := r0.kp k42
    replace r0b := r0b.kp k42
    replace r1 := r1.kp k42
    replace r1b := r1b.kp k42
    replace rw0 := rw0.kp k42
    replace rw0b := rw0b.kp k42
    replace rm0 := rm0.kp k42
    replace rm0b := rm0b.kp k42
    replace rh0 := rh0.kp k42
    replace rh0b := rh0b.kp k42
    replace A0_0 := k42.cell0 A0_0
    replace A0_1 := k42.cell0 A0_1
    replace A0_2 := k42.cell0 A0_2
    replace A0_3 := k42.cell0 A0_3
    replace A0_4 := k42.cell0 A0_4
    replace A0_5 := k42.cell0 A0_5
    replace A1_0 := k42.cell0 A1_0
    replace A1_1 := k42.cell0 A1_1
    replace A1_2 := k42.cell0 A1_2
    replace A1_3 := k42.cell0 A1_3
    replace A1_4 := k42.cell0 A1_4
    replace A1_5 := k42.cell0 A1_5
    replace cw0_0 := k42.cell0 cw0_0
    replace cw0_1 := k42.cell0 cw0_1
    replace cw0_2 := k42.cell0 cw0_2
    replace cw0_3 := k42.cell0 cw0_3
    replace cw0_4 := k42.cell0 cw0_4
    replace cw0_5 := k42.cell0 cw0_5
    replace cx0_0 := k42.cell0 cx0_0
    replace cx0_1 := k42.cell0 cx0_1
    replace cx0_2 := k42.cell0 cx0_2
    replace cx0_3 := k42.cell0 cx0_3
    replace cx0_4 := k42.cell0 cx0_4
    replace cx0_5 := k42.cell0 cx0_5
    replace cx1_0 := k42.cell0 cx1_0
    replace cx1_1 := k42.cell0 cx1_1
    replace cx1_2 := k42.cell0 cx1_2
    replace cx1_3 := k42.cell0 cx1_3
    replace cx1_4 := k42.cell0 cx1_4
    replace cx1_5 := k42.cell0 cx1_5
    replace cg0_0 := k42.cell0 cg0_0
    replace cg0_1 := k42.cell0 cg0_1
    replace cg0_2 := k42.cell0 cg0_2
    replace cg0_3 := k42.cell0 cg0_3
    replace cg0_4 := k42.cell0 cg0_4
    replace cg0_5 := k42.cell0 cg0_5
    replace ch0_0 := k42.cell0 ch0_0
    replace ch0_1 := k42.cell0 ch0_1
    replace ch0_2 := k42.cell0 ch0_2
    replace ch0_3 := k42.cell0 ch0_3
    replace ch0_4 := k42.cell0 ch0_4
    replace ch0_5 := k42.cell0 ch0_5
    replace K := hide ((unhide K).trans k42)
    have z43 := k42.size
    clear k42
    have nq043 : ¬ (1 + ((L0.length : Int) + (L0b.length : Int))) < 0 := by omega
    go_wp2_with fail
    go_ret
    exact ⟨rfl, (unhide K).toBelow⟩

end Go.Proofs.YtkaidnomjceddaaDoor
