/-
  The walk of the law FnExactIvMul: it returns true at every argument.
-/
import Derived.Test.YtpognolidbgkkaaDoorPq10
import Derived.Test.YtpognolidbgkkaaDoorBJ
import Derived.Deep.DeepCutAuto
namespace Go.Proofs.YtpognolidbgkkaaDoor
open Go.RowKit
set_option linter.unusedVariables false
set_option maxRecDepth 8000
set_option linter.unusedSimpArgs false

theorem wf_IvMul {n : Int} (h : (Lit.int .i64 n).wf = true) : n ≤ 9223372036854775807 ∧ -9223372036854775808 ≤ n := by
  have e : (Lit.int .i64 n).wf = (decide (IntKind.i64.min ≤ n) && decide (n ≤ IntKind.i64.max)) := rfl
  rw [e, show IntKind.i64.min = -9223372036854775808 by decide, show IntKind.i64.max = 9223372036854775807 by decide] at h
  simp at h
  omega

set_option maxHeartbeats 16000000 in
theorem law_IvMul {u0 : Value} {z0 : List Int} {u0b : Value} {z0b : List Int} {u1 : Value} {z1 : List Int} {u1b : Value} {z1b : List Int} {w : World} (s0 : Bool) (y0 : Int) (r0 : Row .i64 false 0 w.heap.size w u0 z0) (fy0 : (Lit.int .i64 y0).wf = true) (s0b : Bool) (y0b : Int) (r0b : Row .i64 false 0 w.heap.size w u0b z0b) (fy0b : (Lit.int .i64 y0b).wf = true) (s1 : Bool) (y1 : Int) (r1 : Row .i64 false 0 w.heap.size w u1 z1) (fy1 : (Lit.int .i64 y1).wf = true) (s1b : Bool) (y1b : Int) (r1b : Row .i64 false 0 w.heap.size w u1b z1b) (fy1b : (Lit.int .i64 y1b).wf = true) (T : TabB w) :
    Calls Tryd.prog 3 #[.agg #[.bool s0, u0, .int .i64 y0, .bool s0b, u0b, .int .i64 y0b], .agg #[.bool s1, u1, .int .i64 y1, .bool s1b, u1b, .int .i64 y1b]] w fun e w' => e = .returned (.bool true) ∧ Below w.heap.size w w' := by
  have gy0 : y0 ≤ 9223372036854775807 ∧ -9223372036854775808 ≤ y0 := wf_IvMul fy0
  clear fy0
  have gy0b : y0b ≤ 9223372036854775807 ∧ -9223372036854775808 ≤ y0b := wf_IvMul fy0b
  clear fy0b
  have gy1 : y1 ≤ 9223372036854775807 ∧ -9223372036854775808 ≤ y1 := wf_IvMul fy1
  clear fy1
  have gy1b : y1b ≤ 9223372036854775807 ∧ -9223372036854775808 ≤ y1b := wf_IvMul fy1b
  clear fy1b
  obtain ⟨B1, hB1⟩ : ∃ B, ivC (iokB s0 z0 y0 s0b z0b y0b && iokB s1 z1 y1 s1b z1b y1b) ((mulLo s0 z0 y0 s0b z0b y0b s1 z1 y1 s1b z1b y1b).1) ((mulLo s0 z0 y0 s0b z0b y0b s1 z1 y1 s1b z1b y1b).2) ((mulHi s0 z0 y0 s0b z0b y0b s1 z1 y1 s1b z1b y1b).1) ((mulHi s0 z0 y0 s0b z0b y0b s1 z1 y1 s1b z1b y1b).2) = B := ⟨_, rfl⟩
  obtain ⟨L0, hL0⟩ : ∃ L, (if B1 = true then dlm ((mulLo s0 z0 y0 s0b z0b y0b s1 z1 y1 s1b z1b y1b).1) else []) = L := ⟨_, rfl⟩
  obtain ⟨H0, hH0⟩ : ∃ H, (if B1 = true then dex ((mulLo s0 z0 y0 s0b z0b y0b s1 z1 y1 s1b z1b y1b).1) ((mulLo s0 z0 y0 s0b z0b y0b s1 z1 y1 s1b z1b y1b).2) else 0) = H := ⟨_, rfl⟩
  obtain ⟨G0, hG0⟩ : ∃ G, (B1 && wsg ((mulLo s0 z0 y0 s0b z0b y0b s1 z1 y1 s1b z1b y1b).1)) = G := ⟨_, rfl⟩
  obtain ⟨L0b, hL0b⟩ : ∃ L, (if B1 = true then dlm ((mulHi s0 z0 y0 s0b z0b y0b s1 z1 y1 s1b z1b y1b).1) else []) = L := ⟨_, rfl⟩
  obtain ⟨H0b, hH0b⟩ : ∃ H, (if B1 = true then dex ((mulHi s0 z0 y0 s0b z0b y0b s1 z1 y1 s1b z1b y1b).1) ((mulHi s0 z0 y0 s0b z0b y0b s1 z1 y1 s1b z1b y1b).2) else 0) = H := ⟨_, rfl⟩
  obtain ⟨G0b, hG0b⟩ : ∃ G, (B1 && wsg ((mulHi s0 z0 y0 s0b z0b y0b s1 z1 y1 s1b z1b y1b).1)) = G := ⟨_, rfl⟩
  have hn'0 : L0.length ≤ 100 := by rw [← hL0]; exact (by rw [← hB1]; exact ivC_len.1)
  have hq0 : L0.length ≤ 1099511627776 := by omega
  have hn'0b : L0b.length ≤ 100 := by rw [← hL0b]; exact (by rw [← hB1]; exact ivC_len.2)
  have hq0b : L0b.length ≤ 1099511627776 := by omega
  have hm0 := r0.len
  unfold maxLen at hm0
  have hm0b := r0b.len
  unfold maxLen at hm0b
  have hm1 := r1.len
  unfold maxLen at hm1
  have hm1b := r1b.len
  unfold maxLen at hm1b
  obtain ⟨Wn, hn0⟩ : ∃ wz, wz = ((w.alloc (.cells #[.bool s0, u0, .int .i64 y0, .bool s0b, u0b, .int .i64 y0b] 30)).alloc (.cells #[.bool s1, u1, .int .i64 y1, .bool s1b, u1b, .int .i64 y1b] 30)) := ⟨_, rfl⟩
  have k0 : Kept 0 0 w Wn := by rw [hn0]; exact (((Kept.refl 0 0 w).alloc _).alloc _)
  have Ba : Wn.cell? ⟨w.heap.size, 0, none⟩ = some (.bool s0) := by rw [hn0]; exact old_cell _ (new_cell2 _ _ _ _ _ _ (by simp) rfl)
  have Bb : Wn.cell? ⟨w.heap.size, 1, none⟩ = some (u0) := by rw [hn0]; exact old_cell _ (new_cell2 _ _ _ _ _ _ (by simp) rfl)
  have Bc : Wn.cell? ⟨w.heap.size, 2, none⟩ = some (.int .i64 y0) := by rw [hn0]; exact old_cell _ (new_cell2 _ _ _ _ _ _ (by simp) rfl)
  have Bd : Wn.cell? ⟨w.heap.size, 3, none⟩ = some (.bool s0b) := by rw [hn0]; exact old_cell _ (new_cell2 _ _ _ _ _ _ (by simp) rfl)
  have Be : Wn.cell? ⟨w.heap.size, 4, none⟩ = some (u0b) := by rw [hn0]; exact old_cell _ (new_cell2 _ _ _ _ _ _ (by simp) rfl)
  have Bf : Wn.cell? ⟨w.heap.size, 5, none⟩ = some (.int .i64 y0b) := by rw [hn0]; exact old_cell _ (new_cell2 _ _ _ _ _ _ (by simp) rfl)
  have Bg : Wn.cell? ⟨w.heap.size + 1, 0, none⟩ = some (.bool s1) := by rw [hn0]; exact new_cell2 _ _ _ _ _ _ (by simp) rfl
  have Bh : Wn.cell? ⟨w.heap.size + 1, 1, none⟩ = some (u1) := by rw [hn0]; exact new_cell2 _ _ _ _ _ _ (by simp) rfl
  have Bi : Wn.cell? ⟨w.heap.size + 1, 2, none⟩ = some (.int .i64 y1) := by rw [hn0]; exact new_cell2 _ _ _ _ _ _ (by simp) rfl
  have Bj : Wn.cell? ⟨w.heap.size + 1, 3, none⟩ = some (.bool s1b) := by rw [hn0]; exact new_cell2 _ _ _ _ _ _ (by simp) rfl
  have Bk : Wn.cell? ⟨w.heap.size + 1, 4, none⟩ = some (u1b) := by rw [hn0]; exact new_cell2 _ _ _ _ _ _ (by simp) rfl
  have Bl : Wn.cell? ⟨w.heap.size + 1, 5, none⟩ = some (.int .i64 y1b) := by rw [hn0]; exact new_cell2 _ _ _ _ _ _ (by simp) rfl
  subst hn0
  replace r0 := r0.kept k0 (by omega)
  replace r0b := r0b.kept k0 (by omega)
  replace r1 := r1.kept k0 (by omega)
  replace r1b := r1b.kept k0 (by omega)
  have s0 : ((w.alloc (.cells #[.bool s0, u0, .int .i64 y0, .bool s0b, u0b, .int .i64 y0b] 30)).alloc (.cells #[.bool s1, u1, .int .i64 y1, .bool s1b, u1b, .int .i64 y1b] 30)).heap.size = w.heap.size + 2 := by simp
  obtain ⟨a0, c0, hv⟩ := r0.form'
  subst hv
  obtain ⟨a0b, c0b, hv⟩ := r0b.form'
  subst hv
  obtain ⟨a1, c1, hv⟩ := r1.form'
  subst hv
  obtain ⟨a1b, c1b, hv⟩ := r1b.form'
  subst hv
  have K := hide (k0)
  clear k0
  have S0 := hide s0
  clear s0
  have EB1 := hide hB1
  have EL0 := hide hL0
  have EH0 := hide hH0
  have EG0 := hide hG0
  have EL0b := hide hL0b
  have EH0b := hide hH0b
  have EG0b := hide hG0b
  clear hB1 hL0 hH0 hG0 hL0b hH0b hG0b
  go_enter Tryd.func3, Tryd.ntmps3
  skip
  go_wp2_with fail
  generalize ((w.alloc (.cells #[.bool s0, .slice a0 z0.length c0, .int .i64 y0, .bool s0b, .slice a0b z0b.length c0b, .int .i64 y0b] 30)).alloc (.cells #[.bool s1, .slice a1 z1.length c1, .int .i64 y1, .bool s1b, .slice a1b z1b.length c1b, .int .i64 y1b] 30)) = W at *
  refine (szIv_any (s0) (y0) (s0b) (y0b) _ (1048576) (by omega) (by omega) r0 r0b).mono ?_
  rintro e w1 ⟨rfl, k1⟩
  revert r0 r0b r1 r1b; refine k1.n4 ?_; intro r0 r0b r1 r1b
  revert Ba Bb Bc Bd Be Bf Bg Bh Bi Bj Bk Bl; refine k1.m12 ?_; intro Ba Bb Bc Bd Be Bf Bg Bh Bi Bj Bk Bl
  replace K := hide ((unhide K).trans k1)
  have z2 := k1.size
  clear k1
  by_cases big0 : ((z0.length : Int) + (z0b.length : Int)) ≤ 1048576
  rotate_left
  ·rw [if_neg big0]
   go_wp2_with fail
   go_ret
   exact ⟨rfl, (unhide K).toBelow⟩
  rw [if_pos big0]
  have nb0 : ¬ (1048576 - ((z0.length : Int) + (z0b.length : Int))) < 0 := by omega
  go_wp2_with fail
  refine (szIv_any (s1) (y1) (s1b) (y1b) _ ((1048576 - ((z0.length : Int) + (z0b.length : Int)))) (by omega) (by omega) r1 r1b).mono ?_
  rintro e w3 ⟨rfl, k3⟩
  revert r0 r0b r1 r1b; refine k3.n4 ?_; intro r0 r0b r1 r1b
  revert Ba Bb Bc Bd Be Bf Bg Bh Bi Bj Bk Bl; refine k3.m12 ?_; intro Ba Bb Bc Bd Be Bf Bg Bh Bi Bj Bk Bl
  replace K := hide ((unhide K).trans k3)
  have z4 := k3.size
  clear k3
  by_cases big1 : ((z1.length : Int) + (z1b.length : Int)) ≤ (1048576 - ((z0.length : Int) + (z0b.length : Int)))
  rotate_left
  ·rw [if_neg big1]
   go_wp2_with fail
   go_ret
   exact ⟨rfl, (unhide K).toBelow⟩
  rw [if_pos big1]
  have nb1 : ¬ ((1048576 - ((z0.length : Int) + (z0b.length : Int))) - ((z1.length : Int) + (z1b.length : Int))) < 0 := by omega
  have hn0 : z0.length ≤ 1099511627776 := by omega
  have hn0b : z0b.length ≤ 1099511627776 := by omega
  have hn1 : z1.length ≤ 1099511627776 := by omega
  have hn1b : z1b.length ≤ 1099511627776 := by omega
  go_upto_region 8 with fail
  go_cut [6, 7] (fun q0 q1 wx => ∃ X0 v0 v0b, q0 = .pointer (some ⟨X0, 0, none⟩) ∧ q1 = .bool B1 ∧ wx.cell? ⟨X0, 0, none⟩ = some (.bool G0) ∧ wx.cell? ⟨X0, 1, none⟩ = some (v0) ∧ wx.cell? ⟨X0, 2, none⟩ = some (.int .i64 H0) ∧ wx.cell? ⟨X0, 3, none⟩ = some (.bool G0b) ∧ wx.cell? ⟨X0, 4, none⟩ = some (v0b) ∧ wx.cell? ⟨X0, 5, none⟩ = some (.int .i64 H0b) ∧ Row .i64 true w3.heap.size wx.heap.size wx v0 L0 ∧ Row .i64 true w3.heap.size wx.heap.size wx v0b L0b ∧ w3.heap.size ≤ X0 ∧ X0 < wx.heap.size ∧ Kept 0 0 w3 wx)
  case first =>
   have kw := Kept.refl 0 0 w3
   have kd := (Kept.refl 0 0 w3).drew
   revert r0 r0b r1 r1b; refine kd.n4 ?_; intro r0 r0b r1 r1b
   replace kw := kw.trans kd
   revert Ba Bb Bc Bd Be Bf Bg Bh Bi Bj Bk Bl; refine kd.m12 ?_; intro Ba Bb Bc Bd Be Bf Bg Bh Bi Bj Bk Bl
   replace K := hide ((unhide K).trans kd)
   have z5 := kd.size
   clear kd
   refine wp_region_held_drew (S := (fun w' => w'.cell? ⟨w.heap.size, 0, none⟩ = some (.bool s0) ∧ w'.cell? ⟨w.heap.size, 1, none⟩ = some (.slice a0 z0.length c0) ∧ w'.cell? ⟨w.heap.size, 2, none⟩ = some (.int .i64 y0) ∧ w'.cell? ⟨w.heap.size, 3, none⟩ = some (.bool s0b) ∧ w'.cell? ⟨w.heap.size, 4, none⟩ = some (.slice a0b z0b.length c0b) ∧ w'.cell? ⟨w.heap.size, 5, none⟩ = some (.int .i64 y0b) ∧ w'.cell? ⟨w.heap.size + 1, 0, none⟩ = some (.bool s1) ∧ w'.cell? ⟨w.heap.size + 1, 1, none⟩ = some (.slice a1 z1.length c1) ∧ w'.cell? ⟨w.heap.size + 1, 2, none⟩ = some (.int .i64 y1) ∧ w'.cell? ⟨w.heap.size + 1, 3, none⟩ = some (.bool s1b) ∧ w'.cell? ⟨w.heap.size + 1, 4, none⟩ = some (.slice a1b z1b.length c1b) ∧ w'.cell? ⟨w.heap.size + 1, 5, none⟩ = some (.int .i64 y1b))) (by kernel_rfl) ?_ (fun hH => ?_)
   ·exact ⟨Ba, Bb, Bc, Bd, Be, Bf, Bg, Bh, Bi, Bj, Bk, Bl⟩
   generalize w3.drew = wd at *
   refine wT (i := 0) (v := .agg #[.bool s0, .slice a0 z0.length c0, .int .i64 y0, .bool s0b, .slice a0b z0b.length c0b, .int .i64 y0b]) rfl (Or.inl ⟨by rfl, ?_⟩) hH ?_
   ·intro wq hSw
    try dsimp only at hSw
    go_simp
   try simp only [Act.put, zq1, zq2, zq3, zq4, zq5, zq6]
   refine wT (i := 2) (v := .agg #[.bool s1, .slice a1 z1.length c1, .int .i64 y1, .bool s1b, .slice a1b z1b.length c1b, .int .i64 y1b]) rfl (Or.inl ⟨by rfl, ?_⟩) hH ?_
   ·intro wq hSw
    try dsimp only at hSw
    go_simp
   try simp only [Act.put, zq1, zq2, zq3, zq4, zq5, zq6]
   refine wpAnyH_ready (rs := [1, 8]) (by kernel_rfl) (by simp) ?_
   refine AllReadyH.cons rfl (fun KK hK => ?_) (AllReadyH.cons rfl (fun KK hK => ?_) AllReadyH.nil)
   ·simp only [zq1, zq2, zq3]
    rw [if_pos (by rfl)]
    refine wps1 6 (.tmp 28) _ rfl in_toV (.agg #[.bool s0, .slice a0 z0.length c0, .int .i64 y0, .bool s0b, .slice a0b z0b.length c0b, .int .i64 y0b]) rfl (toIv_any (s0) (y0) (s0b) (y0b) _ hn0 hn0b r0 r0b) ?_
    rintro e w6 ⟨v70, v70b, mm70, rfl, r70, r70b, hma70, hmb70, k6⟩
    refine ⟨_, rfl, ?_⟩
    revert r0 r0b r1 r1b; refine k6.n4 ?_; intro r0 r0b r1 r1b
    replace kw := kw.trans k6
    revert Ba Bb Bc Bd Be Bf Bg Bh Bi Bj Bk Bl; refine k6.m12 ?_; intro Ba Bb Bc Bd Be Bf Bg Bh Bi Bj Bk Bl
    replace K := hide ((unhide K).trans k6)
    have z7 := k6.size
    clear k6
    clear hH
    refine hK.out _ _ ?_ (fun hH => ?_)
    ·exact ⟨Ba, Bb, Bc, Bd, Be, Bf, Bg, Bh, Bi, Bj, Bk, Bl⟩
    clear hK KK
    try simp only [Act.put, zq1, zq2, zq3, zq4, zq5, zq6]
    refine wpAnyH_ready (rs := [3, 8]) (by kernel_rfl) (by simp) ?_
    refine AllReadyH.cons rfl (fun KK hK => ?_) (AllReadyH.cons rfl (fun KK hK => ?_) AllReadyH.nil)
    ·simp only [zq1, zq2, zq3]
     rw [if_pos (by rfl)]
     refine wps1 6 (.tmp 30) _ rfl in_toV (.agg #[.bool s1, .slice a1 z1.length c1, .int .i64 y1, .bool s1b, .slice a1b z1b.length c1b, .int .i64 y1b]) rfl (toIv_any (s1) (y1) (s1b) (y1b) _ hn1 hn1b r1 r1b) ?_
     rintro e w8 ⟨v71, v71b, mm71, rfl, r71, r71b, hma71, hmb71, k8⟩
     refine ⟨_, rfl, ?_⟩
     replace r0 := r0.kp k8
     replace r0b := r0b.kp k8
     replace r1 := r1.kp k8
     replace r1b := r1b.kp k8
     replace r70 := r70.kp k8
     replace r70b := r70b.kp k8
     replace kw := kw.trans k8
     revert Ba Bb Bc Bd Be Bf Bg Bh Bi Bj Bk Bl; refine k8.m12 ?_; intro Ba Bb Bc Bd Be Bf Bg Bh Bi Bj Bk Bl
     replace K := hide ((unhide K).trans k8)
     have z9 := k8.size
     clear k8
     clear hH
     refine hK.out _ _ ?_ (fun hH => ?_)
     ·exact ⟨Ba, Bb, Bc, Bd, Be, Bf, Bg, Bh, Bi, Bj, Bk, Bl⟩
     clear hK KK
     try simp only [Act.put, zq1, zq2, zq3, zq4, zq5, zq6]
     refine wpAnyH_ready (rs := [4, 8]) (by kernel_rfl) (by simp) ?_
     refine AllReadyH.cons rfl (fun KK hK => ?_) (AllReadyH.cons rfl (fun KK hK => ?_) AllReadyH.nil)
     ·simp only [zq1, zq2, zq3]
      rw [if_pos (by rfl)]
      have mk := ivmul_specD s0 y0 gy0.1 gy0.2 s0b y0b gy0b.1 gy0b.2 s1 y1 gy1.1 gy1.2 s1b y1b gy1b.1 gy1b.2 w8 r70 r70b r71 r71b
      unfold IvAnsS at mk
      simp only [unhide EB1, unhide EL0, unhide EH0, unhide EG0, unhide EL0b, unhide EH0b, unhide EG0b] at mk
      refine wps2 5 (.tmp 29) (.tmp 31) _ rfl in_spec_IvMul (.agg #[.bool s0, v70, .int .i64 y0, .bool s0b, v70b, .int .i64 y0b]) (.agg #[.bool s1, v71, .int .i64 y1, .bool s1b, v71b, .int .i64 y1b]) rfl rfl mk ?_
      rintro e w10 ⟨v90, v90b, rfl, r90, r90b, k10⟩
      refine ⟨_, rfl, ?_⟩
      clear mk
      revert r0 r0b r1 r1b r70 r70b; refine k10.n6 ?_; intro r0 r0b r1 r1b r70 r70b
      revert r71 r71b; refine k10.n2 ?_; intro r71 r71b
      replace kw := kw.trans k10
      revert Ba Bb Bc Bd Be Bf Bg Bh Bi Bj Bk Bl; refine k10.m12 ?_; intro Ba Bb Bc Bd Be Bf Bg Bh Bi Bj Bk Bl
      replace K := hide ((unhide K).trans k10)
      have z11 := k10.size
      obtain ⟨a90, d90, hv⟩ := Row.form' r90
      subst hv
      obtain ⟨a90b, d90b, hv⟩ := Row.form' r90b
      subst hv
      clear k10
      clear hH
      refine hK.out _ _ ?_ (fun hH => ?_)
      ·exact ⟨Ba, Bb, Bc, Bd, Be, Bf, Bg, Bh, Bi, Bj, Bk, Bl⟩
      clear hK KK
      try simp only [Act.put, zq1, zq2, zq3, zq4, zq5, zq6]
      refine wT (i := 5) (v := .tuple #[.agg #[.bool G0, .slice a90 L0.length d90, .int .i64 H0, .bool G0b, .slice a90b L0b.length d90b, .int .i64 H0b], .bool B1]) rfl (Or.inl ⟨by rfl, ?_⟩) hH ?_
      ·intro wq hSw
       try dsimp only at hSw
       go_simp
      try simp only [Act.put, zq1, zq2, zq3, zq4, zq5, zq6]
      refine wT (i := 6) (v := .agg #[.bool G0, .slice a90 L0.length d90, .int .i64 H0, .bool G0b, .slice a90b L0b.length d90b, .int .i64 H0b]) rfl (Or.inl ⟨by rfl, ?_⟩) hH ?_
      ·intro wq hSw
       try dsimp only at hSw
       go_simp
      try simp only [Act.put, zq1, zq2, zq3, zq4, zq5, zq6]
      refine wT (i := 7) (v := .bool B1) rfl (Or.inl ⟨by rfl, ?_⟩) hH ?_
      ·intro wq hSw
       try dsimp only at hSw
       go_simp
      try simp only [Act.put, zq1, zq2, zq3, zq4, zq5, zq6]
      refine wR 8 (by kernel_rfl) rfl (fun KK hK => ?_)
      ·simp only [zq1, zq2, zq3]
       rw [if_pos (by rfl)]
       go_simp
       have kn := (Kept.refl 0 0 w10).alloc (.cells #[.bool false, .slice none 0 0, .int .i64 0, .bool false, .slice none 0 0, .int .i64 0] 38)
       revert r0 r0b r1 r1b r70 r70b; refine kn.n6 ?_; intro r0 r0b r1 r1b r70 r70b
       replace r71 := r71.kp kn
       replace r71b := r71b.kp kn
       replace r90 := r90.kp kn
       replace r90b := r90b.kp kn
       replace kw := kw.trans kn
       revert Ba Bb Bc Bd Be Bf Bg Bh Bi Bj Bk Bl; refine kn.m12 ?_; intro Ba Bb Bc Bd Be Bf Bg Bh Bi Bj Bk Bl
       replace K := hide ((unhide K).trans kn)
       have z13 := kn.size
       clear kn
       have szx0_ : w10.heap.size < (w10.alloc (.cells #[.bool false, .slice none 0 0, .int .i64 0, .bool false, .slice none 0 0, .int .i64 0] 38)).heap.size := by simp
       have Ck : (w10.alloc (.cells #[.bool false, .slice none 0 0, .int .i64 0, .bool false, .slice none 0 0, .int .i64 0] 38)).cell? ⟨w10.heap.size, 0, none⟩ = some (.bool false) := new_cell2 _ _ _ _ _ _ rfl rfl
       have Cq : (w10.alloc (.cells #[.bool false, .slice none 0 0, .int .i64 0, .bool false, .slice none 0 0, .int .i64 0] 38)).frozen? ⟨w10.heap.size, 0, none⟩ = false := new_loose2 _ _ _ _ _ rfl
       have Cl : (w10.alloc (.cells #[.bool false, .slice none 0 0, .int .i64 0, .bool false, .slice none 0 0, .int .i64 0] 38)).cell? ⟨w10.heap.size, 1, none⟩ = some (.slice none 0 0) := new_cell2 _ _ _ _ _ _ rfl rfl
       have Cr : (w10.alloc (.cells #[.bool false, .slice none 0 0, .int .i64 0, .bool false, .slice none 0 0, .int .i64 0] 38)).frozen? ⟨w10.heap.size, 1, none⟩ = false := new_loose2 _ _ _ _ _ rfl
       have Cm : (w10.alloc (.cells #[.bool false, .slice none 0 0, .int .i64 0, .bool false, .slice none 0 0, .int .i64 0] 38)).cell? ⟨w10.heap.size, 2, none⟩ = some (.int .i64 0) := new_cell2 _ _ _ _ _ _ rfl rfl
       have Cs : (w10.alloc (.cells #[.bool false, .slice none 0 0, .int .i64 0, .bool false, .slice none 0 0, .int .i64 0] 38)).frozen? ⟨w10.heap.size, 2, none⟩ = false := new_loose2 _ _ _ _ _ rfl
       have Cn : (w10.alloc (.cells #[.bool false, .slice none 0 0, .int .i64 0, .bool false, .slice none 0 0, .int .i64 0] 38)).cell? ⟨w10.heap.size, 3, none⟩ = some (.bool false) := new_cell2 _ _ _ _ _ _ rfl rfl
       have Ct : (w10.alloc (.cells #[.bool false, .slice none 0 0, .int .i64 0, .bool false, .slice none 0 0, .int .i64 0] 38)).frozen? ⟨w10.heap.size, 3, none⟩ = false := new_loose2 _ _ _ _ _ rfl
       have Co : (w10.alloc (.cells #[.bool false, .slice none 0 0, .int .i64 0, .bool false, .slice none 0 0, .int .i64 0] 38)).cell? ⟨w10.heap.size, 4, none⟩ = some (.slice none 0 0) := new_cell2 _ _ _ _ _ _ rfl rfl
       have Cu : (w10.alloc (.cells #[.bool false, .slice none 0 0, .int .i64 0, .bool false, .slice none 0 0, .int .i64 0] 38)).frozen? ⟨w10.heap.size, 4, none⟩ = false := new_loose2 _ _ _ _ _ rfl
       have Cp : (w10.alloc (.cells #[.bool false, .slice none 0 0, .int .i64 0, .bool false, .slice none 0 0, .int .i64 0] 38)).cell? ⟨w10.heap.size, 5, none⟩ = some (.int .i64 0) := new_cell2 _ _ _ _ _ _ rfl rfl
       have Cv : (w10.alloc (.cells #[.bool false, .slice none 0 0, .int .i64 0, .bool false, .slice none 0 0, .int .i64 0] 38)).frozen? ⟨w10.heap.size, 5, none⟩ = false := new_loose2 _ _ _ _ _ rfl
       clear hH
       refine hK.out _ _ ?_ (fun hH => ?_)
       ·exact ⟨Ba, Bb, Bc, Bd, Be, Bf, Bg, Bh, Bi, Bj, Bk, Bl⟩
       clear hK KK
       try simp only [Act.put, zq1, zq2, zq3, zq4, zq5, zq6]
       generalize w10.alloc (.cells #[.bool false, .slice none 0 0, .int .i64 0, .bool false, .slice none 0 0, .int .i64 0] 38) = w12 at *
       refine wR 9 (by kernel_rfl) rfl (fun KK hK => ?_)
       simp only [zq1, zq2, zq3]
       rw [if_pos (by rfl)]
       go_simp
       clear hH
       refine hK.out _ _ ?_ (fun hH => ?_)
       ·have sq := unhide S0; exact ⟨(cw6 (by dsimp only; omega) Ba), (cw6 (by dsimp only; omega) Bb), (cw6 (by dsimp only; omega) Bc), (cw6 (by dsimp only; omega) Bd), (cw6 (by dsimp only; omega) Be), (cw6 (by dsimp only; omega) Bf), (cw6 (by dsimp only; omega) Bg), (cw6 (by dsimp only; omega) Bh), (cw6 (by dsimp only; omega) Bi), (cw6 (by dsimp only; omega) Bj), (cw6 (by dsimp only; omega) Bk), (cw6 (by dsimp only; omega) Bl)⟩
       clear hK KK
       try simp only [Act.put, zq1, zq2, zq3, zq4, zq5, zq6]
       refine wT (i := 10) (v := .bool B1) rfl (Or.inl ⟨by rfl, ?_⟩) hH ?_
       ·intro wq hSw
        try dsimp only at hSw
        go_simp
       try simp only [Act.put, zq1, zq2, zq3, zq4, zq5, zq6]
       refine wpAnyH_done (by kernel_rfl) ?_ _
       clear hH
       go_wp2_with fail
       go_meet
       exact ⟨_, _, _, rfl, rfl, law_setV G0 H0 G0b H0b kw Ck Cl Cm Cn Co Cp r90 r90b (by omega) (by omega) (by omega) (by omega) (by omega)⟩
     ·simp only [zq1, zq2, zq3]
      rw [if_pos (by rfl)]
      go_simp
      have kn := (Kept.refl 0 0 w8).alloc (.cells #[.bool false, .slice none 0 0, .int .i64 0, .bool false, .slice none 0 0, .int .i64 0] 38)
      replace r0 := r0.kp kn
      replace r0b := r0b.kp kn
      replace r1 := r1.kp kn
      replace r1b := r1b.kp kn
      replace r70 := r70.kp kn
      replace r70b := r70b.kp kn
      replace r71 := r71.kp kn
      replace r71b := r71b.kp kn
      replace kw := kw.trans kn
      replace Ba := kn.cell0 Ba
      replace Bb := kn.cell0 Bb
      replace Bc := kn.cell0 Bc
      replace Bd := kn.cell0 Bd
      replace Be := kn.cell0 Be
      replace Bf := kn.cell0 Bf
      replace Bg := kn.cell0 Bg
      replace Bh := kn.cell0 Bh
      replace Bi := kn.cell0 Bi
      replace Bj := kn.cell0 Bj
      replace Bk := kn.cell0 Bk
      replace Bl := kn.cell0 Bl
      replace K := hide ((unhide K).trans kn)
      have z11 := kn.size
      clear kn
      have szx0_ : w8.heap.size < (w8.alloc (.cells #[.bool false, .slice none 0 0, .int .i64 0, .bool false, .slice none 0 0, .int .i64 0] 38)).heap.size := by simp
      have Ck : (w8.alloc (.cells #[.bool false, .slice none 0 0, .int .i64 0, .bool false, .slice none 0 0, .int .i64 0] 38)).cell? ⟨w8.heap.size, 0, none⟩ = some (.bool false) := new_cell2 _ _ _ _ _ _ rfl rfl
      have Cq : (w8.alloc (.cells #[.bool false, .slice none 0 0, .int .i64 0, .bool false, .slice none 0 0, .int .i64 0] 38)).frozen? ⟨w8.heap.size, 0, none⟩ = false := new_loose2 _ _ _ _ _ rfl
      have Cl : (w8.alloc (.cells #[.bool false, .slice none 0 0, .int .i64 0, .bool false, .slice none 0 0, .int .i64 0] 38)).cell? ⟨w8.heap.size, 1, none⟩ = some (.slice none 0 0) := new_cell2 _ _ _ _ _ _ rfl rfl
      have Cr : (w8.alloc (.cells #[.bool false, .slice none 0 0, .int .i64 0, .bool false, .slice none 0 0, .int .i64 0] 38)).frozen? ⟨w8.heap.size, 1, none⟩ = false := new_loose2 _ _ _ _ _ rfl
      have Cm : (w8.alloc (.cells #[.bool false, .slice none 0 0, .int .i64 0, .bool false, .slice none 0 0, .int .i64 0] 38)).cell? ⟨w8.heap.size, 2, none⟩ = some (.int .i64 0) := new_cell2 _ _ _ _ _ _ rfl rfl
      have Cs : (w8.alloc (.cells #[.bool false, .slice none 0 0, .int .i64 0, .bool false, .slice none 0 0, .int .i64 0] 38)).frozen? ⟨w8.heap.size, 2, none⟩ = false := new_loose2 _ _ _ _ _ rfl
      have Cn : (w8.alloc (.cells #[.bool false, .slice none 0 0, .int .i64 0, .bool false, .slice none 0 0, .int .i64 0] 38)).cell? ⟨w8.heap.size, 3, none⟩ = some (.bool false) := new_cell2 _ _ _ _ _ _ rfl rfl
      have Ct : (w8.alloc (.cells #[.bool false, .slice none 0 0, .int .i64 0, .bool false, .slice none 0 0, .int .i64 0] 38)).frozen? ⟨w8.heap.size, 3, none⟩ = false := new_loose2 _ _ _ _ _ rfl
      have Co : (w8.alloc (.cells #[.bool false, .slice none 0 0, .int .i64 0, .bool false, .slice none 0 0, .int .i64 0] 38)).cell? ⟨w8.heap.size, 4, none⟩ = some (.slice none 0 0) := new_cell2 _ _ _ _ _ _ rfl rfl
      have Cu : (w8.alloc (.cells #[.bool false, .slice none 0 0, .int .i64 0, .bool false, .slice none 0 0, .int .i64 0] 38)).frozen? ⟨w8.heap.size, 4, none⟩ = false := new_loose2 _ _ _ _ _ rfl
      have Cp : (w8.alloc (.cells #[.bool false, .slice none 0 0, .int .i64 0, .bool false, .slice none 0 0, .int .i64 0] 38)).cell? ⟨w8.heap.size, 5, none⟩ = some (.int .i64 0) := new_cell2 _ _ _ _ _ _ rfl rfl
      have Cv : (w8.alloc (.cells #[.bool false, .slice none 0 0, .int .i64 0, .bool false, .slice none 0 0, .int .i64 0] 38)).frozen? ⟨w8.heap.size, 5, none⟩ = false := new_loose2 _ _ _ _ _ rfl
      clear hH
      refine hK.out _ _ ?_ (fun hH => ?_)
      ·exact ⟨Ba, Bb, Bc, Bd, Be, Bf, Bg, Bh, Bi, Bj, Bk, Bl⟩
      clear hK KK
      try simp only [Act.put, zq1, zq2, zq3, zq4, zq5, zq6]
      generalize w8.alloc (.cells #[.bool false, .slice none 0 0, .int .i64 0, .bool false, .slice none 0 0, .int .i64 0] 38) = w10 at *
      refine wR 4 (by kernel_rfl) rfl (fun KK hK => ?_)
      ·simp only [zq1, zq2, zq3]
       rw [if_pos (by rfl)]
       have mk := ivmul_specD s0 y0 gy0.1 gy0.2 s0b y0b gy0b.1 gy0b.2 s1 y1 gy1.1 gy1.2 s1b y1b gy1b.1 gy1b.2 w10 r70 r70b r71 r71b
       unfold IvAnsS at mk
       simp only [unhide EB1, unhide EL0, unhide EH0, unhide EG0, unhide EL0b, unhide EH0b, unhide EG0b] at mk
       refine wps2 5 (.tmp 29) (.tmp 31) _ rfl in_spec_IvMul (.agg #[.bool s0, v70, .int .i64 y0, .bool s0b, v70b, .int .i64 y0b]) (.agg #[.bool s1, v71, .int .i64 y1, .bool s1b, v71b, .int .i64 y1b]) rfl rfl mk ?_
       rintro e w12 ⟨v90, v90b, rfl, r90, r90b, k12⟩
       refine ⟨_, rfl, ?_⟩
       clear mk
       revert r0 r0b r1 r1b r70 r70b; refine k12.n6 ?_; intro r0 r0b r1 r1b r70 r70b
       revert r71 r71b; refine k12.n2 ?_; intro r71 r71b
       replace kw := kw.trans k12
       replace Cq := k12.loose0 (zbl Ck) Cq
       replace Cr := k12.loose0 (zbl Cl) Cr
       replace Cs := k12.loose0 (zbl Cm) Cs
       replace Ct := k12.loose0 (zbl Cn) Ct
       replace Cu := k12.loose0 (zbl Co) Cu
       replace Cv := k12.loose0 (zbl Cp) Cv
       revert Ba Bb Bc Bd Be Bf Bg Bh Bi Bj Bk Bl; refine k12.m12 ?_; intro Ba Bb Bc Bd Be Bf Bg Bh Bi Bj Bk Bl
       revert Ck Cl Cm Cn Co Cp; refine k12.m6 ?_; intro Ck Cl Cm Cn Co Cp
       replace K := hide ((unhide K).trans k12)
       have z13 := k12.size
       obtain ⟨a90, d90, hv⟩ := Row.form' r90
       subst hv
       obtain ⟨a90b, d90b, hv⟩ := Row.form' r90b
       subst hv
       clear k12
       clear hH
       refine hK.out _ _ ?_ (fun hH => ?_)
       ·exact ⟨Ba, Bb, Bc, Bd, Be, Bf, Bg, Bh, Bi, Bj, Bk, Bl⟩
       clear hK KK
       try simp only [Act.put, zq1, zq2, zq3, zq4, zq5, zq6]
       refine wT (i := 5) (v := .tuple #[.agg #[.bool G0, .slice a90 L0.length d90, .int .i64 H0, .bool G0b, .slice a90b L0b.length d90b, .int .i64 H0b], .bool B1]) rfl (Or.inl ⟨by rfl, ?_⟩) hH ?_
       ·intro wq hSw
        try dsimp only at hSw
        go_simp
       try simp only [Act.put, zq1, zq2, zq3, zq4, zq5, zq6]
       refine wT (i := 6) (v := .agg #[.bool G0, .slice a90 L0.length d90, .int .i64 H0, .bool G0b, .slice a90b L0b.length d90b, .int .i64 H0b]) rfl (Or.inl ⟨by rfl, ?_⟩) hH ?_
       ·intro wq hSw
        try dsimp only at hSw
        go_simp
       try simp only [Act.put, zq1, zq2, zq3, zq4, zq5, zq6]
       refine wT (i := 7) (v := .bool B1) rfl (Or.inl ⟨by rfl, ?_⟩) hH ?_
       ·intro wq hSw
        try dsimp only at hSw
        go_simp
       try simp only [Act.put, zq1, zq2, zq3, zq4, zq5, zq6]
       refine wR 9 (by kernel_rfl) rfl (fun KK hK => ?_)
       simp only [zq1, zq2, zq3]
       rw [if_pos (by rfl)]
       go_simp
       clear hH
       refine hK.out _ _ ?_ (fun hH => ?_)
       ·have sq := unhide S0; exact ⟨(cw6 (by dsimp only; omega) Ba), (cw6 (by dsimp only; omega) Bb), (cw6 (by dsimp only; omega) Bc), (cw6 (by dsimp only; omega) Bd), (cw6 (by dsimp only; omega) Be), (cw6 (by dsimp only; omega) Bf), (cw6 (by dsimp only; omega) Bg), (cw6 (by dsimp only; omega) Bh), (cw6 (by dsimp only; omega) Bi), (cw6 (by dsimp only; omega) Bj), (cw6 (by dsimp only; omega) Bk), (cw6 (by dsimp only; omega) Bl)⟩
       clear hK KK
       try simp only [Act.put, zq1, zq2, zq3, zq4, zq5, zq6]
       refine wT (i := 10) (v := .bool B1) rfl (Or.inl ⟨by rfl, ?_⟩) hH ?_
       ·intro wq hSw
        try dsimp only at hSw
        go_simp
       try simp only [Act.put, zq1, zq2, zq3, zq4, zq5, zq6]
       refine wpAnyH_done (by kernel_rfl) ?_ _
       clear hH
       go_wp2_with fail
       go_meet
       exact ⟨_, _, _, rfl, rfl, law_setV G0 H0 G0b H0b kw Ck Cl Cm Cn Co Cp r90 r90b (by omega) (by omega) (by omega) (by omega) (by omega)⟩
    ·simp only [zq1, zq2, zq3]
     rw [if_pos (by rfl)]
     go_simp
     have kn := (Kept.refl 0 0 w6).alloc (.cells #[.bool false, .slice none 0 0, .int .i64 0, .bool false, .slice none 0 0, .int .i64 0] 38)
     replace r0 := r0.kp kn
     replace r0b := r0b.kp kn
     replace r1 := r1.kp kn
     replace r1b := r1b.kp kn
     replace r70 := r70.kp kn
     replace r70b := r70b.kp kn
     replace kw := kw.trans kn
     replace Ba := kn.cell0 Ba
     replace Bb := kn.cell0 Bb
     replace Bc := kn.cell0 Bc
     replace Bd := kn.cell0 Bd
     replace Be := kn.cell0 Be
     replace Bf := kn.cell0 Bf
     replace Bg := kn.cell0 Bg
     replace Bh := kn.cell0 Bh
     replace Bi := kn.cell0 Bi
     replace Bj := kn.cell0 Bj
     replace Bk := kn.cell0 Bk
     replace Bl := kn.cell0 Bl
     replace K := hide ((unhide K).trans kn)
     have z9 := kn.size
     clear kn
     have szx0_ : w6.heap.size < (w6.alloc (.cells #[.bool false, .slice none 0 0, .int .i64 0, .bool false, .slice none 0 0, .int .i64 0] 38)).heap.size := by simp
     have Ck : (w6.alloc (.cells #[.bool false, .slice none 0 0, .int .i64 0, .bool false, .slice none 0 0, .int .i64 0] 38)).cell? ⟨w6.heap.size, 0, none⟩ = some (.bool false) := new_cell2 _ _ _ _ _ _ rfl rfl
     have Cq : (w6.alloc (.cells #[.bool false, .slice none 0 0, .int .i64 0, .bool false, .slice none 0 0, .int .i64 0] 38)).frozen? ⟨w6.heap.size, 0, none⟩ = false := new_loose2 _ _ _ _ _ rfl
     have Cl : (w6.alloc (.cells #[.bool false, .slice none 0 0, .int .i64 0, .bool false, .slice none 0 0, .int .i64 0] 38)).cell? ⟨w6.heap.size, 1, none⟩ = some (.slice none 0 0) := new_cell2 _ _ _ _ _ _ rfl rfl
     have Cr : (w6.alloc (.cells #[.bool false, .slice none 0 0, .int .i64 0, .bool false, .slice none 0 0, .int .i64 0] 38)).frozen? ⟨w6.heap.size, 1, none⟩ = false := new_loose2 _ _ _ _ _ rfl
     have Cm : (w6.alloc (.cells #[.bool false, .slice none 0 0, .int .i64 0, .bool false, .slice none 0 0, .int .i64 0] 38)).cell? ⟨w6.heap.size, 2, none⟩ = some (.int .i64 0) := new_cell2 _ _ _ _ _ _ rfl rfl
     have Cs : (w6.alloc (.cells #[.bool false, .slice none 0 0, .int .i64 0, .bool false, .slice none 0 0, .int .i64 0] 38)).frozen? ⟨w6.heap.size, 2, none⟩ = false := new_loose2 _ _ _ _ _ rfl
     have Cn : (w6.alloc (.cells #[.bool false, .slice none 0 0, .int .i64 0, .bool false, .slice none 0 0, .int .i64 0] 38)).cell? ⟨w6.heap.size, 3, none⟩ = some (.bool false) := new_cell2 _ _ _ _ _ _ rfl rfl
     have Ct : (w6.alloc (.cells #[.bool false, .slice none 0 0, .int .i64 0, .bool false, .slice none 0 0, .int .i64 0] 38)).frozen? ⟨w6.heap.size, 3, none⟩ = false := new_loose2 _ _ _ _ _ rfl
     have Co : (w6.alloc (.cells #[.bool false, .slice none 0 0, .int .i64 0, .bool false, .slice none 0 0, .int .i64 0] 38)).cell? ⟨w6.heap.size, 4, none⟩ = some (.slice none 0 0) := new_cell2 _ _ _ _ _ _ rfl rfl
     have Cu : (w6.alloc (.cells #[.bool false, .slice none 0 0, .int .i64 0, .bool false, .slice none 0 0, .int .i64 0] 38)).frozen? ⟨w6.heap.size, 4, none⟩ = false := new_loose2 _ _ _ _ _ rfl
     have Cp : (w6.alloc (.cells #[.bool false, .slice none 0 0, .int .i64 0, .bool false, .slice none 0 0, .int .i64 0] 38)).cell? ⟨w6.heap.size, 5, none⟩ = some (.int .i64 0) := new_cell2 _ _ _ _ _ _ rfl rfl
     have Cv : (w6.alloc (.cells #[.bool false, .slice none 0 0, .int .i64 0, .bool false, .slice none 0 0, .int .i64 0] 38)).frozen? ⟨w6.heap.size, 5, none⟩ = false := new_loose2 _ _ _ _ _ rfl
     clear hH
     refine hK.out _ _ ?_ (fun hH => ?_)
     ·exact ⟨Ba, Bb, Bc, Bd, Be, Bf, Bg, Bh, Bi, Bj, Bk, Bl⟩
     clear hK KK
     try simp only [Act.put, zq1, zq2, zq3, zq4, zq5, zq6]
     generalize w6.alloc (.cells #[.bool false, .slice none 0 0, .int .i64 0, .bool false, .slice none 0 0, .int .i64 0] 38) = w8 at *
     refine wR 3 (by kernel_rfl) rfl (fun KK hK => ?_)
     ·simp only [zq1, zq2, zq3]
      rw [if_pos (by rfl)]
      refine wps1 6 (.tmp 30) _ rfl in_toV (.agg #[.bool s1, .slice a1 z1.length c1, .int .i64 y1, .bool s1b, .slice a1b z1b.length c1b, .int .i64 y1b]) rfl (toIv_any (s1) (y1) (s1b) (y1b) _ hn1 hn1b r1 r1b) ?_
      rintro e w10 ⟨v71, v71b, mm71, rfl, r71, r71b, hma71, hmb71, k10⟩
      refine ⟨_, rfl, ?_⟩
      revert r0 r0b r1 r1b r70 r70b; refine k10.n6 ?_; intro r0 r0b r1 r1b r70 r70b
      replace kw := kw.trans k10
      replace Cq := k10.loose0 (zbl Ck) Cq
      replace Cr := k10.loose0 (zbl Cl) Cr
      replace Cs := k10.loose0 (zbl Cm) Cs
      replace Ct := k10.loose0 (zbl Cn) Ct
      replace Cu := k10.loose0 (zbl Co) Cu
      replace Cv := k10.loose0 (zbl Cp) Cv
      revert Ba Bb Bc Bd Be Bf Bg Bh Bi Bj Bk Bl; refine k10.m12 ?_; intro Ba Bb Bc Bd Be Bf Bg Bh Bi Bj Bk Bl
      revert Ck Cl Cm Cn Co Cp; refine k10.m6 ?_; intro Ck Cl Cm Cn Co Cp
      replace K := hide ((unhide K).trans k10)
      have z11 := k10.size
      clear k10
      clear hH
      refine hK.out _ _ ?_ (fun hH => ?_)
      ·exact ⟨Ba, Bb, Bc, Bd, Be, Bf, Bg, Bh, Bi, Bj, Bk, Bl⟩
      clear hK KK
      try simp only [Act.put, zq1, zq2, zq3, zq4, zq5, zq6]
      refine wR 4 (by kernel_rfl) rfl (fun KK hK => ?_)
      ·simp only [zq1, zq2, zq3]
       rw [if_pos (by rfl)]
       have mk := ivmul_specD s0 y0 gy0.1 gy0.2 s0b y0b gy0b.1 gy0b.2 s1 y1 gy1.1 gy1.2 s1b y1b gy1b.1 gy1b.2 w10 r70 r70b r71 r71b
       unfold IvAnsS at mk
       simp only [unhide EB1, unhide EL0, unhide EH0, unhide EG0, unhide EL0b, unhide EH0b, unhide EG0b] at mk
       refine wps2 5 (.tmp 29) (.tmp 31) _ rfl in_spec_IvMul (.agg #[.bool s0, v70, .int .i64 y0, .bool s0b, v70b, .int .i64 y0b]) (.agg #[.bool s1, v71, .int .i64 y1, .bool s1b, v71b, .int .i64 y1b]) rfl rfl mk ?_
       rintro e w12 ⟨v90, v90b, rfl, r90, r90b, k12⟩
       refine ⟨_, rfl, ?_⟩
       clear mk
       revert r0 r0b r1 r1b r70 r70b; refine k12.n6 ?_; intro r0 r0b r1 r1b r70 r70b
       revert r71 r71b; refine k12.n2 ?_; intro r71 r71b
       replace kw := kw.trans k12
       replace Cq := k12.loose0 (zbl Ck) Cq
       replace Cr := k12.loose0 (zbl Cl) Cr
       replace Cs := k12.loose0 (zbl Cm) Cs
       replace Ct := k12.loose0 (zbl Cn) Ct
       replace Cu := k12.loose0 (zbl Co) Cu
       replace Cv := k12.loose0 (zbl Cp) Cv
       revert Ba Bb Bc Bd Be Bf Bg Bh Bi Bj Bk Bl; refine k12.m12 ?_; intro Ba Bb Bc Bd Be Bf Bg Bh Bi Bj Bk Bl
       revert Ck Cl Cm Cn Co Cp; refine k12.m6 ?_; intro Ck Cl Cm Cn Co Cp
       replace K := hide ((unhide K).trans k12)
       have z13 := k12.size
       obtain ⟨a90, d90, hv⟩ := Row.form' r90
       subst hv
       obtain ⟨a90b, d90b, hv⟩ := Row.form' r90b
       subst hv
       clear k12
       clear hH
       refine hK.out _ _ ?_ (fun hH => ?_)
       ·exact ⟨Ba, Bb, Bc, Bd, Be, Bf, Bg, Bh, Bi, Bj, Bk, Bl⟩
       clear hK KK
       try simp only [Act.put, zq1, zq2, zq3, zq4, zq5, zq6]
       refine wT (i := 5) (v := .tuple #[.agg #[.bool G0, .slice a90 L0.length d90, .int .i64 H0, .bool G0b, .slice a90b L0b.length d90b, .int .i64 H0b], .bool B1]) rfl (Or.inl ⟨by rfl, ?_⟩) hH ?_
       ·intro wq hSw
        try dsimp only at hSw
        go_simp
       try simp only [Act.put, zq1, zq2, zq3, zq4, zq5, zq6]
       refine wT (i := 6) (v := .agg #[.bool G0, .slice a90 L0.length d90, .int .i64 H0, .bool G0b, .slice a90b L0b.length d90b, .int .i64 H0b]) rfl (Or.inl ⟨by rfl, ?_⟩) hH ?_
       ·intro wq hSw
        try dsimp only at hSw
        go_simp
       try simp only [Act.put, zq1, zq2, zq3, zq4, zq5, zq6]
       refine wT (i := 7) (v := .bool B1) rfl (Or.inl ⟨by rfl, ?_⟩) hH ?_
       ·intro wq hSw
        try dsimp only at hSw
        go_simp
       try simp only [Act.put, zq1, zq2, zq3, zq4, zq5, zq6]
       refine wR 9 (by kernel_rfl) rfl (fun KK hK => ?_)
       simp only [zq1, zq2, zq3]
       rw [if_pos (by rfl)]
       go_simp
       clear hH
       refine hK.out _ _ ?_ (fun hH => ?_)
       ·have sq := unhide S0; exact ⟨(cw6 (by dsimp only; omega) Ba), (cw6 (by dsimp only; omega) Bb), (cw6 (by dsimp only; omega) Bc), (cw6 (by dsimp only; omega) Bd), (cw6 (by dsimp only; omega) Be), (cw6 (by dsimp only; omega) Bf), (cw6 (by dsimp only; omega) Bg), (cw6 (by dsimp only; omega) Bh), (cw6 (by dsimp only; omega) Bi), (cw6 (by dsimp only; omega) Bj), (cw6 (by dsimp only; omega) Bk), (cw6 (by dsimp only; omega) Bl)⟩
       clear hK KK
       try simp only [Act.put, zq1, zq2, zq3, zq4, zq5, zq6]
       refine wT (i := 10) (v := .bool B1) rfl (Or.inl ⟨by rfl, ?_⟩) hH ?_
       ·intro wq hSw
        try dsimp only at hSw
        go_simp
       try simp only [Act.put, zq1, zq2, zq3, zq4, zq5, zq6]
       refine wpAnyH_done (by kernel_rfl) ?_ _
       clear hH
       go_wp2_with fail
       go_meet
       exact ⟨_, _, _, rfl, rfl, law_setV G0 H0 G0b H0b kw Ck Cl Cm Cn Co Cp r90 r90b (by omega) (by omega) (by omega) (by omega) (by omega)⟩
   ·simp only [zq1, zq2, zq3]
    rw [if_pos (by rfl)]
    go_simp
    have kn := (Kept.refl 0 0 wd).alloc (.cells #[.bool false, .slice none 0 0, .int .i64 0, .bool false, .slice none 0 0, .int .i64 0] 38)
    replace r0 := r0.kp kn
    replace r0b := r0b.kp kn
    replace r1 := r1.kp kn
    replace r1b := r1b.kp kn
    replace kw := kw.trans kn
    replace Ba := kn.cell0 Ba
    replace Bb := kn.cell0 Bb
    replace Bc := kn.cell0 Bc
    replace Bd := kn.cell0 Bd
    replace Be := kn.cell0 Be
    replace Bf := kn.cell0 Bf
    replace Bg := kn.cell0 Bg
    replace Bh := kn.cell0 Bh
    replace Bi := kn.cell0 Bi
    replace Bj := kn.cell0 Bj
    replace Bk := kn.cell0 Bk
    replace Bl := kn.cell0 Bl
    replace K := hide ((unhide K).trans kn)
    have z7 := kn.size
    clear kn
    have szx0_ : wd.heap.size < (wd.alloc (.cells #[.bool false, .slice none 0 0, .int .i64 0, .bool false, .slice none 0 0, .int .i64 0] 38)).heap.size := by simp
    have Ck : (wd.alloc (.cells #[.bool false, .slice none 0 0, .int .i64 0, .bool false, .slice none 0 0, .int .i64 0] 38)).cell? ⟨wd.heap.size, 0, none⟩ = some (.bool false) := new_cell2 _ _ _ _ _ _ rfl rfl
    have Cq : (wd.alloc (.cells #[.bool false, .slice none 0 0, .int .i64 0, .bool false, .slice none 0 0, .int .i64 0] 38)).frozen? ⟨wd.heap.size, 0, none⟩ = false := new_loose2 _ _ _ _ _ rfl
    have Cl : (wd.alloc (.cells #[.bool false, .slice none 0 0, .int .i64 0, .bool false, .slice none 0 0, .int .i64 0] 38)).cell? ⟨wd.heap.size, 1, none⟩ = some (.slice none 0 0) := new_cell2 _ _ _ _ _ _ rfl rfl
    have Cr : (wd.alloc (.cells #[.bool false, .slice none 0 0, .int .i64 0, .bool false, .slice none 0 0, .int .i64 0] 38)).frozen? ⟨wd.heap.size, 1, none⟩ = false := new_loose2 _ _ _ _ _ rfl
    have Cm : (wd.alloc (.cells #[.bool false, .slice none 0 0, .int .i64 0, .bool false, .slice none 0 0, .int .i64 0] 38)).cell? ⟨wd.heap.size, 2, none⟩ = some (.int .i64 0) := new_cell2 _ _ _ _ _ _ rfl rfl
    have Cs : (wd.alloc (.cells #[.bool false, .slice none 0 0, .int .i64 0, .bool false, .slice none 0 0, .int .i64 0] 38)).frozen? ⟨wd.heap.size, 2, none⟩ = false := new_loose2 _ _ _ _ _ rfl
    have Cn : (wd.alloc (.cells #[.bool false, .slice none 0 0, .int .i64 0, .bool false, .slice none 0 0, .int .i64 0] 38)).cell? ⟨wd.heap.size, 3, none⟩ = some (.bool false) := new_cell2 _ _ _ _ _ _ rfl rfl
    have Ct : (wd.alloc (.cells #[.bool false, .slice none 0 0, .int .i64 0, .bool false, .slice none 0 0, .int .i64 0] 38)).frozen? ⟨wd.heap.size, 3, none⟩ = false := new_loose2 _ _ _ _ _ rfl
    have Co : (wd.alloc (.cells #[.bool false, .slice none 0 0, .int .i64 0, .bool false, .slice none 0 0, .int .i64 0] 38)).cell? ⟨wd.heap.size, 4, none⟩ = some (.slice none 0 0) := new_cell2 _ _ _ _ _ _ rfl rfl
    have Cu : (wd.alloc (.cells #[.bool false, .slice none 0 0, .int .i64 0, .bool false, .slice none 0 0, .int .i64 0] 38)).frozen? ⟨wd.heap.size, 4, none⟩ = false := new_loose2 _ _ _ _ _ rfl
    have Cp : (wd.alloc (.cells #[.bool false, .slice none 0 0, .int .i64 0, .bool false, .slice none 0 0, .int .i64 0] 38)).cell? ⟨wd.heap.size, 5, none⟩ = some (.int .i64 0) := new_cell2 _ _ _ _ _ _ rfl rfl
    have Cv : (wd.alloc (.cells #[.bool false, .slice none 0 0, .int .i64 0, .bool false, .slice none 0 0, .int .i64 0] 38)).frozen? ⟨wd.heap.size, 5, none⟩ = false := new_loose2 _ _ _ _ _ rfl
    clear hH
    refine hK.out _ _ ?_ (fun hH => ?_)
    ·exact ⟨Ba, Bb, Bc, Bd, Be, Bf, Bg, Bh, Bi, Bj, Bk, Bl⟩
    clear hK KK
    try simp only [Act.put, zq1, zq2, zq3, zq4, zq5, zq6]
    generalize wd.alloc (.cells #[.bool false, .slice none 0 0, .int .i64 0, .bool false, .slice none 0 0, .int .i64 0] 38) = w6 at *
    refine wR 1 (by kernel_rfl) rfl (fun KK hK => ?_)
    ·simp only [zq1, zq2, zq3]
     rw [if_pos (by rfl)]
     refine wps1 6 (.tmp 28) _ rfl in_toV (.agg #[.bool s0, .slice a0 z0.length c0, .int .i64 y0, .bool s0b, .slice a0b z0b.length c0b, .int .i64 y0b]) rfl (toIv_any (s0) (y0) (s0b) (y0b) _ hn0 hn0b r0 r0b) ?_
     rintro e w8 ⟨v70, v70b, mm70, rfl, r70, r70b, hma70, hmb70, k8⟩
     refine ⟨_, rfl, ?_⟩
     revert r0 r0b r1 r1b; refine k8.n4 ?_; intro r0 r0b r1 r1b
     replace kw := kw.trans k8
     replace Cq := k8.loose0 (zbl Ck) Cq
     replace Cr := k8.loose0 (zbl Cl) Cr
     replace Cs := k8.loose0 (zbl Cm) Cs
     replace Ct := k8.loose0 (zbl Cn) Ct
     replace Cu := k8.loose0 (zbl Co) Cu
     replace Cv := k8.loose0 (zbl Cp) Cv
     revert Ba Bb Bc Bd Be Bf Bg Bh Bi Bj Bk Bl; refine k8.m12 ?_; intro Ba Bb Bc Bd Be Bf Bg Bh Bi Bj Bk Bl
     revert Ck Cl Cm Cn Co Cp; refine k8.m6 ?_; intro Ck Cl Cm Cn Co Cp
     replace K := hide ((unhide K).trans k8)
     have z9 := k8.size
     clear k8
     clear hH
     refine hK.out _ _ ?_ (fun hH => ?_)
     ·exact ⟨Ba, Bb, Bc, Bd, Be, Bf, Bg, Bh, Bi, Bj, Bk, Bl⟩
     clear hK KK
     try simp only [Act.put, zq1, zq2, zq3, zq4, zq5, zq6]
     refine wR 3 (by kernel_rfl) rfl (fun KK hK => ?_)
     ·simp only [zq1, zq2, zq3]
      rw [if_pos (by rfl)]
      refine wps1 6 (.tmp 30) _ rfl in_toV (.agg #[.bool s1, .slice a1 z1.length c1, .int .i64 y1, .bool s1b, .slice a1b z1b.length c1b, .int .i64 y1b]) rfl (toIv_any (s1) (y1) (s1b) (y1b) _ hn1 hn1b r1 r1b) ?_
      rintro e w10 ⟨v71, v71b, mm71, rfl, r71, r71b, hma71, hmb71, k10⟩
      refine ⟨_, rfl, ?_⟩
      replace r0 := r0.kp k10
      replace r0b := r0b.kp k10
      replace r1 := r1.kp k10
      replace r1b := r1b.kp k10
      replace r70 := r70.kp k10
      replace r70b := r70b.kp k10
      replace kw := kw.trans k10
      replace Cq := k10.loose0 (zbl Ck) Cq
      replace Cr := k10.loose0 (zbl Cl) Cr
      replace Cs := k10.loose0 (zbl Cm) Cs
      replace Ct := k10.loose0 (zbl Cn) Ct
      replace Cu := k10.loose0 (zbl Co) Cu
      replace Cv := k10.loose0 (zbl Cp) Cv
      revert Ba Bb Bc Bd Be Bf Bg Bh Bi Bj Bk Bl; refine k10.m12 ?_; intro Ba Bb Bc Bd Be Bf Bg Bh Bi Bj Bk Bl
      revert Ck Cl Cm Cn Co Cp; refine k10.m6 ?_; intro Ck Cl Cm Cn Co Cp
      replace K := hide ((unhide K).trans k10)
      have z11 := k10.size
      clear k10
      clear hH
      refine hK.out _ _ ?_ (fun hH => ?_)
      ·exact ⟨Ba, Bb, Bc, Bd, Be, Bf, Bg, Bh, Bi, Bj, Bk, Bl⟩
      clear hK KK
      try simp only [Act.put, zq1, zq2, zq3, zq4, zq5, zq6]
      refine wR 4 (by kernel_rfl) rfl (fun KK hK => ?_)
      ·simp only [zq1, zq2, zq3]
       rw [if_pos (by rfl)]
       have mk := ivmul_specD s0 y0 gy0.1 gy0.2 s0b y0b gy0b.1 gy0b.2 s1 y1 gy1.1 gy1.2 s1b y1b gy1b.1 gy1b.2 w10 r70 r70b r71 r71b
       unfold IvAnsS at mk
       simp only [unhide EB1, unhide EL0, unhide EH0, unhide EG0, unhide EL0b, unhide EH0b, unhide EG0b] at mk
       refine wps2 5 (.tmp 29) (.tmp 31) _ rfl in_spec_IvMul (.agg #[.bool s0, v70, .int .i64 y0, .bool s0b, v70b, .int .i64 y0b]) (.agg #[.bool s1, v71, .int .i64 y1, .bool s1b, v71b, .int .i64 y1b]) rfl rfl mk ?_
       rintro e w12 ⟨v90, v90b, rfl, r90, r90b, k12⟩
       refine ⟨_, rfl, ?_⟩
       clear mk
       revert r0 r0b r1 r1b r70 r70b; refine k12.n6 ?_; intro r0 r0b r1 r1b r70 r70b
       revert r71 r71b; refine k12.n2 ?_; intro r71 r71b
       replace kw := kw.trans k12
       replace Cq := k12.loose0 (zbl Ck) Cq
       replace Cr := k12.loose0 (zbl Cl) Cr
       replace Cs := k12.loose0 (zbl Cm) Cs
       replace Ct := k12.loose0 (zbl Cn) Ct
       replace Cu := k12.loose0 (zbl Co) Cu
       replace Cv := k12.loose0 (zbl Cp) Cv
       revert Ba Bb Bc Bd Be Bf Bg Bh Bi Bj Bk Bl; refine k12.m12 ?_; intro Ba Bb Bc Bd Be Bf Bg Bh Bi Bj Bk Bl
       revert Ck Cl Cm Cn Co Cp; refine k12.m6 ?_; intro Ck Cl Cm Cn Co Cp
       replace K := hide ((unhide K).trans k12)
       have z13 := k12.size
       obtain ⟨a90, d90, hv⟩ := Row.form' r90
       subst hv
       obtain ⟨a90b, d90b, hv⟩ := Row.form' r90b
       subst hv
       clear k12
       clear hH
       refine hK.out _ _ ?_ (fun hH => ?_)
       ·exact ⟨Ba, Bb, Bc, Bd, Be, Bf, Bg, Bh, Bi, Bj, Bk, Bl⟩
       clear hK KK
       try simp only [Act.put, zq1, zq2, zq3, zq4, zq5, zq6]
       refine wT (i := 5) (v := .tuple #[.agg #[.bool G0, .slice a90 L0.length d90, .int .i64 H0, .bool G0b, .slice a90b L0b.length d90b, .int .i64 H0b], .bool B1]) rfl (Or.inl ⟨by rfl, ?_⟩) hH ?_
       ·intro wq hSw
        try dsimp only at hSw
        go_simp
       try simp only [Act.put, zq1, zq2, zq3, zq4, zq5, zq6]
       refine wT (i := 6) (v := .agg #[.bool G0, .slice a90 L0.length d90, .int .i64 H0, .bool G0b, .slice a90b L0b.length d90b, .int .i64 H0b]) rfl (Or.inl ⟨by rfl, ?_⟩) hH ?_
       ·intro wq hSw
        try dsimp only at hSw
        go_simp
       try simp only [Act.put, zq1, zq2, zq3, zq4, zq5, zq6]
       refine wT (i := 7) (v := .bool B1) rfl (Or.inl ⟨by rfl, ?_⟩) hH ?_
       ·intro wq hSw
        try dsimp only at hSw
        go_simp
       try simp only [Act.put, zq1, zq2, zq3, zq4, zq5, zq6]
       refine wR 9 (by kernel_rfl) rfl (fun KK hK => ?_)
       simp only [zq1, zq2, zq3]
       rw [if_pos (by rfl)]
       go_simp
       clear hH
       refine hK.out _ _ ?_ (fun hH => ?_)
       ·have sq := unhide S0; exact ⟨(cw6 (by dsimp only; omega) Ba), (cw6 (by dsimp only; omega) Bb), (cw6 (by dsimp only; omega) Bc), (cw6 (by dsimp only; omega) Bd), (cw6 (by dsimp only; omega) Be), (cw6 (by dsimp only; omega) Bf), (cw6 (by dsimp only; omega) Bg), (cw6 (by dsimp only; omega) Bh), (cw6 (by dsimp only; omega) Bi), (cw6 (by dsimp only; omega) Bj), (cw6 (by dsimp only; omega) Bk), (cw6 (by dsimp only; omega) Bl)⟩
       clear hK KK
       try simp only [Act.put, zq1, zq2, zq3, zq4, zq5, zq6]
       refine wT (i := 10) (v := .bool B1) rfl (Or.inl ⟨by rfl, ?_⟩) hH ?_
       ·intro wq hSw
        try dsimp only at hSw
        go_simp
       try simp only [Act.put, zq1, zq2, zq3, zq4, zq5, zq6]
       refine wpAnyH_done (by kernel_rfl) ?_ _
       clear hH
       go_wp2_with fail
       go_meet
       exact ⟨_, _, _, rfl, rfl, law_setV G0 H0 G0b H0b kw Ck Cl Cm Cn Co Cp r90 r90b (by omega) (by omega) (by omega) (by omega) (by omega)⟩
  case rest =>
   obtain ⟨Xw0, vw0, vw0b, rfl, rfl, Bm, Bn, Bo, Bp, Bq, Br, rw0, rw0b, hXw0, hYw0, kk⟩ := hcut
   replace r0 := r0.kp kk
   replace r0b := r0b.kp kk
   replace r1 := r1.kp kk
   replace r1b := r1b.kp kk
   replace Ba := kk.cell0 Ba
   replace Bb := kk.cell0 Bb
   replace Bc := kk.cell0 Bc
   replace Bd := kk.cell0 Bd
   replace Be := kk.cell0 Be
   replace Bf := kk.cell0 Bf
   replace Bg := kk.cell0 Bg
   replace Bh := kk.cell0 Bh
   replace Bi := kk.cell0 Bi
   replace Bj := kk.cell0 Bj
   replace Bk := kk.cell0 Bk
   replace Bl := kk.cell0 Bl
   replace K := hide ((unhide K).trans kk)
   have z5 := kk.size
   clear kk
   obtain ⟨aw0, dw0, hv⟩ := Row.form' rw0
   subst hv
   obtain ⟨aw0b, dw0b, hv⟩ := Row.form' rw0b
   subst hv
   generalize hwc : wc = we6 at *
   clear hwc
   go_wp2_with fail
   refine (toIv_any (s0) (y0) (s0b) (y0b) _ hn0 hn0b r0 r0b).mono ?_
   rintro e w7 ⟨vx0, vx0b, mmx0, rfl, rx0, rx0b, hmax0, hmbx0, k7⟩
   replace r0 := r0.kp k7
   replace r0b := r0b.kp k7
   replace r1 := r1.kp k7
   replace r1b := r1b.kp k7
   replace rw0 := rw0.kp k7
   replace rw0b := rw0b.kp k7
   revert Ba Bb Bc Bd Be Bf Bg Bh Bi Bj Bk Bl; refine k7.m12 ?_; intro Ba Bb Bc Bd Be Bf Bg Bh Bi Bj Bk Bl
   revert Bm Bn Bo Bp Bq Br; refine k7.m6 ?_; intro Bm Bn Bo Bp Bq Br
   replace K := hide ((unhide K).trans k7)
   have z8 := k7.size
   clear k7
   obtain ⟨ax0, dx0, hv⟩ := Row.form' rx0
   subst hv
   obtain ⟨ax0b, dx0b, hv⟩ := Row.form' rx0b
   subst hv
   have kn := (Kept.refl 0 0 w7).alloc (.cells #[.bool s0, .slice ax0 z0.length dx0, .int .i64 y0, .bool s0b, .slice ax0b z0b.length dx0b, .int .i64 y0b] 38)
   have Bs : (w7.alloc (.cells #[.bool s0, .slice ax0 z0.length dx0, .int .i64 y0, .bool s0b, .slice ax0b z0b.length dx0b, .int .i64 y0b] 38)).cell? ⟨w7.heap.size, 0, none⟩ = some (.bool s0) := new_cell2 _ _ _ _ _ _ rfl rfl
   have Bt : (w7.alloc (.cells #[.bool s0, .slice ax0 z0.length dx0, .int .i64 y0, .bool s0b, .slice ax0b z0b.length dx0b, .int .i64 y0b] 38)).cell? ⟨w7.heap.size, 1, none⟩ = some (.slice ax0 z0.length dx0) := new_cell2 _ _ _ _ _ _ rfl rfl
   have Bu : (w7.alloc (.cells #[.bool s0, .slice ax0 z0.length dx0, .int .i64 y0, .bool s0b, .slice ax0b z0b.length dx0b, .int .i64 y0b] 38)).cell? ⟨w7.heap.size, 2, none⟩ = some (.int .i64 y0) := new_cell2 _ _ _ _ _ _ rfl rfl
   have Bv : (w7.alloc (.cells #[.bool s0, .slice ax0 z0.length dx0, .int .i64 y0, .bool s0b, .slice ax0b z0b.length dx0b, .int .i64 y0b] 38)).cell? ⟨w7.heap.size, 3, none⟩ = some (.bool s0b) := new_cell2 _ _ _ _ _ _ rfl rfl
   have Bw : (w7.alloc (.cells #[.bool s0, .slice ax0 z0.length dx0, .int .i64 y0, .bool s0b, .slice ax0b z0b.length dx0b, .int .i64 y0b] 38)).cell? ⟨w7.heap.size, 4, none⟩ = some (.slice ax0b z0b.length dx0b) := new_cell2 _ _ _ _ _ _ rfl rfl
   have Bx : (w7.alloc (.cells #[.bool s0, .slice ax0 z0.length dx0, .int .i64 y0, .bool s0b, .slice ax0b z0b.length dx0b, .int .i64 y0b] 38)).cell? ⟨w7.heap.size, 5, none⟩ = some (.int .i64 y0b) := new_cell2 _ _ _ _ _ _ rfl rfl
   have t9 : w7.heap.size + 1 ≤ (w7.alloc (.cells #[.bool s0, .slice ax0 z0.length dx0, .int .i64 y0, .bool s0b, .slice ax0b z0b.length dx0b, .int .i64 y0b] 38)).heap.size := by simp
   revert r0 r0b r1 r1b rw0 rw0b; refine kn.n6 ?_; intro r0 r0b r1 r1b rw0 rw0b
   revert rx0 rx0b; refine kn.n2 ?_; intro rx0 rx0b
   revert Ba Bb Bc Bd Be Bf Bg Bh Bi Bj Bk Bl; refine kn.m12 ?_; intro Ba Bb Bc Bd Be Bf Bg Bh Bi Bj Bk Bl
   revert Bm Bn Bo Bp Bq Br; refine kn.m6 ?_; intro Bm Bn Bo Bp Bq Br
   replace K := hide ((unhide K).trans kn)
   have z10 := kn.size
   clear kn
   go_wp2_with fail
   generalize w7.alloc (.cells #[.bool s0, .slice ax0 z0.length dx0, .int .i64 y0, .bool s0b, .slice ax0b z0b.length dx0b, .int .i64 y0b] 38) = wm9 at *
   refine (toIv_any (s1) (y1) (s1b) (y1b) _ hn1 hn1b r1 r1b).mono ?_
   rintro e w11 ⟨vx1, vx1b, mmx1, rfl, rx1, rx1b, hmax1, hmbx1, k11⟩
   revert r0 r0b r1 r1b rw0 rw0b; refine k11.n6 ?_; intro r0 r0b r1 r1b rw0 rw0b
   revert rx0 rx0b; refine k11.n2 ?_; intro rx0 rx0b
   revert Ba Bb Bc Bd Be Bf Bg Bh Bi Bj Bk Bl; refine k11.m12 ?_; intro Ba Bb Bc Bd Be Bf Bg Bh Bi Bj Bk Bl
   replace Bm := k11.cell0 Bm
   replace Bn := k11.cell0 Bn
   replace Bo := k11.cell0 Bo
   replace Bp := k11.cell0 Bp
   replace Bq := k11.cell0 Bq
   replace Br := k11.cell0 Br
   replace Bs := k11.cell0 Bs
   replace Bt := k11.cell0 Bt
   replace Bu := k11.cell0 Bu
   replace Bv := k11.cell0 Bv
   replace Bw := k11.cell0 Bw
   replace Bx := k11.cell0 Bx
   replace K := hide ((unhide K).trans k11)
   have z12 := k11.size
   clear k11
   obtain ⟨ax1, dx1, hv⟩ := Row.form' rx1
   subst hv
   obtain ⟨ax1b, dx1b, hv⟩ := Row.form' rx1b
   subst hv
   have kn := (Kept.refl 0 0 w11).alloc (.cells #[.bool s1, .slice ax1 z1.length dx1, .int .i64 y1, .bool s1b, .slice ax1b z1b.length dx1b, .int .i64 y1b] 38)
   have By : (w11.alloc (.cells #[.bool s1, .slice ax1 z1.length dx1, .int .i64 y1, .bool s1b, .slice ax1b z1b.length dx1b, .int .i64 y1b] 38)).cell? ⟨w11.heap.size, 0, none⟩ = some (.bool s1) := new_cell2 _ _ _ _ _ _ rfl rfl
   have Bz : (w11.alloc (.cells #[.bool s1, .slice ax1 z1.length dx1, .int .i64 y1, .bool s1b, .slice ax1b z1b.length dx1b, .int .i64 y1b] 38)).cell? ⟨w11.heap.size, 1, none⟩ = some (.slice ax1 z1.length dx1) := new_cell2 _ _ _ _ _ _ rfl rfl
   have Ca : (w11.alloc (.cells #[.bool s1, .slice ax1 z1.length dx1, .int .i64 y1, .bool s1b, .slice ax1b z1b.length dx1b, .int .i64 y1b] 38)).cell? ⟨w11.heap.size, 2, none⟩ = some (.int .i64 y1) := new_cell2 _ _ _ _ _ _ rfl rfl
   have Cb : (w11.alloc (.cells #[.bool s1, .slice ax1 z1.length dx1, .int .i64 y1, .bool s1b, .slice ax1b z1b.length dx1b, .int .i64 y1b] 38)).cell? ⟨w11.heap.size, 3, none⟩ = some (.bool s1b) := new_cell2 _ _ _ _ _ _ rfl rfl
   have Cc : (w11.alloc (.cells #[.bool s1, .slice ax1 z1.length dx1, .int .i64 y1, .bool s1b, .slice ax1b z1b.length dx1b, .int .i64 y1b] 38)).cell? ⟨w11.heap.size, 4, none⟩ = some (.slice ax1b z1b.length dx1b) := new_cell2 _ _ _ _ _ _ rfl rfl
   have Cd : (w11.alloc (.cells #[.bool s1, .slice ax1 z1.length dx1, .int .i64 y1, .bool s1b, .slice ax1b z1b.length dx1b, .int .i64 y1b] 38)).cell? ⟨w11.heap.size, 5, none⟩ = some (.int .i64 y1b) := new_cell2 _ _ _ _ _ _ rfl rfl
   have t13 : w11.heap.size + 1 ≤ (w11.alloc (.cells #[.bool s1, .slice ax1 z1.length dx1, .int .i64 y1, .bool s1b, .slice ax1b z1b.length dx1b, .int .i64 y1b] 38)).heap.size := by simp
   revert r0 r0b r1 r1b rw0 rw0b; refine kn.n6 ?_; intro r0 r0b r1 r1b rw0 rw0b
   replace rx0 := rx0.kp kn
   replace rx0b := rx0b.kp kn
   replace rx1 := rx1.kp kn
   replace rx1b := rx1b.kp kn
   revert Ba Bb Bc Bd Be Bf Bg Bh Bi Bj Bk Bl; refine kn.m12 ?_; intro Ba Bb Bc Bd Be Bf Bg Bh Bi Bj Bk Bl
   revert Bm Bn Bo Bp Bq Br Bs Bt Bu Bv Bw Bx; refine kn.m12 ?_; intro Bm Bn Bo Bp Bq Br Bs Bt Bu Bv Bw Bx
   replace K := hide ((unhide K).trans kn)
   have z14 := kn.size
   clear kn
   go_wp2_with fail
   generalize w11.alloc (.cells #[.bool s1, .slice ax1 z1.length dx1, .int .i64 y1, .bool s1b, .slice ax1b z1b.length dx1b, .int .i64 y1b] 38) = wm13 at *
   have mk := ivmul_implD s0 y0 gy0.1 gy0.2 s0b y0b gy0b.1 gy0b.2 s1 y1 gy1.1 gy1.2 s1b y1b gy1b.1 gy1b.2 wm13 rx0 rx0b rx1 rx1b (T.kept (unhide K))
   unfold IvAns at mk
   simp only [unhide EB1, unhide EL0, unhide EH0, unhide EG0, unhide EL0b, unhide EH0b, unhide EG0b] at mk
   refine (mk).mono ?_
   rintro e w15 ⟨vg0, vg0b, mmg0, rfl, rg0, rg0b, hmag0, hmbg0, k15⟩
   revert r0 r0b r1 r1b rw0 rw0b; refine k15.n6 ?_; intro r0 r0b r1 r1b rw0 rw0b
   revert rx0 rx0b rx1 rx1b; refine k15.n4 ?_; intro rx0 rx0b rx1 rx1b
   revert Ba Bb Bc Bd Be Bf Bg Bh Bi Bj Bk Bl; refine k15.m12 ?_; intro Ba Bb Bc Bd Be Bf Bg Bh Bi Bj Bk Bl
   revert Bm Bn Bo Bp Bq Br Bs Bt Bu Bv Bw Bx; refine k15.m12 ?_; intro Bm Bn Bo Bp Bq Br Bs Bt Bu Bv Bw Bx
   revert By Bz Ca Cb Cc Cd; refine k15.m6 ?_; intro By Bz Ca Cb Cc Cd
   replace K := hide ((unhide K).trans k15)
   have z16 := k15.size
   clear k15
   clear mk
   obtain ⟨ag0, dg0, hv⟩ := Row.form' rg0
   subst hv
   obtain ⟨ag0b, dg0b, hv⟩ := Row.form' rg0b
   subst hv
   have kn := (Kept.refl 0 0 w15).alloc (.cells #[.bool G0, .slice ag0 L0.length dg0, .int .i64 H0, .bool G0b, .slice ag0b L0b.length dg0b, .int .i64 H0b] 38)
   have Ce : (w15.alloc (.cells #[.bool G0, .slice ag0 L0.length dg0, .int .i64 H0, .bool G0b, .slice ag0b L0b.length dg0b, .int .i64 H0b] 38)).cell? ⟨w15.heap.size, 0, none⟩ = some (.bool G0) := new_cell2 _ _ _ _ _ _ rfl rfl
   have Cf : (w15.alloc (.cells #[.bool G0, .slice ag0 L0.length dg0, .int .i64 H0, .bool G0b, .slice ag0b L0b.length dg0b, .int .i64 H0b] 38)).cell? ⟨w15.heap.size, 1, none⟩ = some (.slice ag0 L0.length dg0) := new_cell2 _ _ _ _ _ _ rfl rfl
   have Cg : (w15.alloc (.cells #[.bool G0, .slice ag0 L0.length dg0, .int .i64 H0, .bool G0b, .slice ag0b L0b.length dg0b, .int .i64 H0b] 38)).cell? ⟨w15.heap.size, 2, none⟩ = some (.int .i64 H0) := new_cell2 _ _ _ _ _ _ rfl rfl
   have Ch : (w15.alloc (.cells #[.bool G0, .slice ag0 L0.length dg0, .int .i64 H0, .bool G0b, .slice ag0b L0b.length dg0b, .int .i64 H0b] 38)).cell? ⟨w15.heap.size, 3, none⟩ = some (.bool G0b) := new_cell2 _ _ _ _ _ _ rfl rfl
   have Ci : (w15.alloc (.cells #[.bool G0, .slice ag0 L0.length dg0, .int .i64 H0, .bool G0b, .slice ag0b L0b.length dg0b, .int .i64 H0b] 38)).cell? ⟨w15.heap.size, 4, none⟩ = some (.slice ag0b L0b.length dg0b) := new_cell2 _ _ _ _ _ _ rfl rfl
   have Cj : (w15.alloc (.cells #[.bool G0, .slice ag0 L0.length dg0, .int .i64 H0, .bool G0b, .slice ag0b L0b.length dg0b, .int .i64 H0b] 38)).cell? ⟨w15.heap.size, 5, none⟩ = some (.int .i64 H0b) := new_cell2 _ _ _ _ _ _ rfl rfl
   have t17 : w15.heap.size + 1 ≤ (w15.alloc (.cells #[.bool G0, .slice ag0 L0.length dg0, .int .i64 H0, .bool G0b, .slice ag0b L0b.length dg0b, .int .i64 H0b] 38)).heap.size := by simp
   revert r0 r0b r1 r1b rw0 rw0b; refine kn.n6 ?_; intro r0 r0b r1 r1b rw0 rw0b
   replace rx0 := rx0.kp kn
   replace rx0b := rx0b.kp kn
   replace rx1 := rx1.kp kn
   replace rx1b := rx1b.kp kn
   replace rg0 := rg0.kp kn
   replace rg0b := rg0b.kp kn
   revert Ba Bb Bc Bd Be Bf Bg Bh Bi Bj Bk Bl; refine kn.m12 ?_; intro Ba Bb Bc Bd Be Bf Bg Bh Bi Bj Bk Bl
   revert Bm Bn Bo Bp Bq Br Bs Bt Bu Bv Bw Bx; refine kn.m12 ?_; intro Bm Bn Bo Bp Bq Br Bs Bt Bu Bv Bw Bx
   revert By Bz Ca Cb Cc Cd; refine kn.m6 ?_; intro By Bz Ca Cb Cc Cd
   replace K := hide ((unhide K).trans kn)
   have z18 := kn.size
   clear kn
   go_wp2_with fail
   generalize w15.alloc (.cells #[.bool G0, .slice ag0 L0.length dg0, .int .i64 H0, .bool G0b, .slice ag0b L0b.length dg0b, .int .i64 H0b] 38) = wm17 at *
   refine (eqIv_same (G0) (H0) (G0b) (H0b) _ rg0 rg0b rw0 rw0b).mono ?_
   rintro e w19 ⟨rfl, k19⟩
   revert r0 r0b r1 r1b rw0 rw0b; refine k19.n6 ?_; intro r0 r0b r1 r1b rw0 rw0b
   revert rx0 rx0b rx1 rx1b rg0 rg0b; refine k19.n6 ?_; intro rx0 rx0b rx1 rx1b rg0 rg0b
   revert Ba Bb Bc Bd Be Bf Bg Bh Bi Bj Bk Bl; refine k19.m12 ?_; intro Ba Bb Bc Bd Be Bf Bg Bh Bi Bj Bk Bl
   revert Bm Bn Bo Bp Bq Br Bs Bt Bu Bv Bw Bx; refine k19.m12 ?_; intro Bm Bn Bo Bp Bq Br Bs Bt Bu Bv Bw Bx
   replace By := k19.cell0 By
   replace Bz := k19.cell0 Bz
   replace Ca := k19.cell0 Ca
   replace Cb := k19.cell0 Cb
   replace Cc := k19.cell0 Cc
   replace Cd := k19.cell0 Cd
   replace Ce := k19.cell0 Ce
   replace Cf := k19.cell0 Cf
   replace Cg := k19.cell0 Cg
   replace Ch := k19.cell0 Ch
   replace Ci := k19.cell0 Ci
   replace Cj := k19.cell0 Cj
   replace K := hide ((unhide K).trans k19)
   have z20 := k19.size
   clear k19
   go_wp2_with fail
   have kd := (Kept.refl 0 0 w19).drew
   revert r0 r0b r1 r1b rw0 rw0b; refine kd.n6 ?_; intro r0 r0b r1 r1b rw0 rw0b
   revert rx0 rx0b rx1 rx1b rg0 rg0b; refine kd.n6 ?_; intro rx0 rx0b rx1 rx1b rg0 rg0b
   revert Ba Bb Bc Bd Be Bf Bg Bh Bi Bj Bk Bl; refine kd.m12 ?_; intro Ba Bb Bc Bd Be Bf Bg Bh Bi Bj Bk Bl
   revert Bm Bn Bo Bp Bq Br Bs Bt Bu Bv Bw Bx; refine kd.m12 ?_; intro Bm Bn Bo Bp Bq Br Bs Bt Bu Bv Bw Bx
   revert By Bz Ca Cb Cc Cd Ce Cf Cg Ch Ci Cj; refine kd.m12 ?_; intro By Bz Ca Cb Cc Cd Ce Cf Cg Ch Ci Cj
   replace K := hide ((unhide K).trans kd)
   have z21 := kd.size
   clear kd
   refine wp_region_held_drew (S := (fun w' => w'.cell? ⟨w.heap.size, 0, none⟩ = some (.bool s0) ∧ w'.cell? ⟨w.heap.size, 1, none⟩ = some (.slice a0 z0.length c0) ∧ w'.cell? ⟨w.heap.size, 2, none⟩ = some (.int .i64 y0) ∧ w'.cell? ⟨w.heap.size, 3, none⟩ = some (.bool s0b) ∧ w'.cell? ⟨w.heap.size, 4, none⟩ = some (.slice a0b z0b.length c0b) ∧ w'.cell? ⟨w.heap.size, 5, none⟩ = some (.int .i64 y0b) ∧ w'.cell? ⟨w7.heap.size, 0, none⟩ = some (.bool s0) ∧ w'.cell? ⟨w7.heap.size, 1, none⟩ = some (.slice ax0 z0.length dx0) ∧ w'.cell? ⟨w7.heap.size, 2, none⟩ = some (.int .i64 y0) ∧ w'.cell? ⟨w7.heap.size, 3, none⟩ = some (.bool s0b) ∧ w'.cell? ⟨w7.heap.size, 4, none⟩ = some (.slice ax0b z0b.length dx0b) ∧ w'.cell? ⟨w7.heap.size, 5, none⟩ = some (.int .i64 y0b))) (by kernel_rfl) ?_ (fun hH => ?_)
   ·exact ⟨Ba, Bb, Bc, Bd, Be, Bf, Bs, Bt, Bu, Bv, Bw, Bx⟩
   refine wT (i := 0) (v := .agg #[.bool s0, .slice ax0 z0.length dx0, .int .i64 y0, .bool s0b, .slice ax0b z0b.length dx0b, .int .i64 y0b]) rfl (Or.inl ⟨by rfl, ?_⟩) hH ?_
   ·intro wq hSw
    try dsimp only at hSw
    go_simp
   try simp only [Act.put, zq1, zq2, zq3, zq4, zq5, zq6]
   refine wT (i := 1) (v := .agg #[.bool s0, .slice a0 z0.length c0, .int .i64 y0, .bool s0b, .slice a0b z0b.length c0b, .int .i64 y0b]) rfl (Or.inl ⟨by rfl, ?_⟩) hH ?_
   ·intro wq hSw
    try dsimp only at hSw
    go_simp
   try simp only [Act.put, zq1, zq2, zq3, zq4, zq5, zq6]
   refine wR 2 (by kernel_rfl) rfl (fun KK hK => ?_)
   simp only [zq1, zq2, zq3]
   rw [if_pos (by rfl)]
   refine wps1 6 (.tmp 55) _ rfl in_toV (.agg #[.bool s0, .slice a0 z0.length c0, .int .i64 y0, .bool s0b, .slice a0b z0b.length c0b, .int .i64 y0b]) rfl (toIv_any (s0) (y0) (s0b) (y0b) _ hn0 hn0b r0 r0b) ?_
   rintro e w22 ⟨v80, v80b, mm80, rfl, r80, r80b, hma80, hmb80, k22⟩
   refine ⟨_, rfl, ?_⟩
   revert r0 r0b r1 r1b rw0 rw0b; refine k22.n6 ?_; intro r0 r0b r1 r1b rw0 rw0b
   revert rx0 rx0b rx1 rx1b rg0 rg0b; refine k22.n6 ?_; intro rx0 rx0b rx1 rx1b rg0 rg0b
   revert Ba Bb Bc Bd Be Bf Bg Bh Bi Bj Bk Bl; refine k22.m12 ?_; intro Ba Bb Bc Bd Be Bf Bg Bh Bi Bj Bk Bl
   revert Bm Bn Bo Bp Bq Br Bs Bt Bu Bv Bw Bx; refine k22.m12 ?_; intro Bm Bn Bo Bp Bq Br Bs Bt Bu Bv Bw Bx
   revert By Bz Ca Cb Cc Cd Ce Cf Cg Ch Ci Cj; refine k22.m12 ?_; intro By Bz Ca Cb Cc Cd Ce Cf Cg Ch Ci Cj
   replace K := hide ((unhide K).trans k22)
   have z23 := k22.size
   clear k22
   clear hH
   refine hK.out _ _ ?_ (fun hH => ?_)
   ·exact ⟨Ba, Bb, Bc, Bd, Be, Bf, Bs, Bt, Bu, Bv, Bw, Bx⟩
   clear hK KK
   try simp only [Act.put, zq1, zq2, zq3, zq4, zq5, zq6]
   refine wR 3 (by kernel_rfl) rfl (fun KK hK => ?_)
   simp only [zq1, zq2, zq3]
   rw [if_pos (by rfl)]
   refine wps2 8 (.tmp 54) (.tmp 56) _ rfl in_eqV (.agg #[.bool s0, .slice ax0 z0.length dx0, .int .i64 y0, .bool s0b, .slice ax0b z0b.length dx0b, .int .i64 y0b]) (.agg #[.bool s0, v80, .int .i64 y0, .bool s0b, v80b, .int .i64 y0b]) rfl rfl (eqIv_same (s0) (y0) (s0b) (y0b) _ rx0 rx0b r80 r80b) ?_
   rintro e w24 ⟨rfl, k24⟩
   refine ⟨_, rfl, ?_⟩
   revert r0 r0b r1 r1b rw0 rw0b; refine k24.n6 ?_; intro r0 r0b r1 r1b rw0 rw0b
   revert rx0 rx0b rx1 rx1b rg0 rg0b; refine k24.n6 ?_; intro rx0 rx0b rx1 rx1b rg0 rg0b
   revert r80 r80b; refine k24.n2 ?_; intro r80 r80b
   revert Ba Bb Bc Bd Be Bf Bg Bh Bi Bj Bk Bl; refine k24.m12 ?_; intro Ba Bb Bc Bd Be Bf Bg Bh Bi Bj Bk Bl
   revert Bm Bn Bo Bp Bq Br Bs Bt Bu Bv Bw Bx; refine k24.m12 ?_; intro Bm Bn Bo Bp Bq Br Bs Bt Bu Bv Bw Bx
   revert By Bz Ca Cb Cc Cd Ce Cf Cg Ch Ci Cj; refine k24.m12 ?_; intro By Bz Ca Cb Cc Cd Ce Cf Cg Ch Ci Cj
   replace K := hide ((unhide K).trans k24)
   have z25 := k24.size
   clear k24
   clear hH
   refine hK.out _ _ ?_ (fun hH => ?_)
   ·exact ⟨Ba, Bb, Bc, Bd, Be, Bf, Bs, Bt, Bu, Bv, Bw, Bx⟩
   clear hK KK
   try simp only [Act.put, zq1, zq2, zq3, zq4, zq5, zq6]
   refine wT (i := 4) (v := .bool false) rfl (Or.inl ⟨by rfl, ?_⟩) hH ?_
   ·intro wq hSw
    try dsimp only at hSw
    go_simp
   try simp only [Act.put, zq1, zq2, zq3, zq4, zq5, zq6]
   refine wpAnyH_done (by kernel_rfl) ?_ _
   clear hH
   clear r80 r80b
   go_wp2_with fail
   have kd := (Kept.refl 0 0 w24).drew
   revert r0 r0b r1 r1b rw0 rw0b; refine kd.n6 ?_; intro r0 r0b r1 r1b rw0 rw0b
   revert rx0 rx0b rx1 rx1b rg0 rg0b; refine kd.n6 ?_; intro rx0 rx0b rx1 rx1b rg0 rg0b
   revert Ba Bb Bc Bd Be Bf Bg Bh Bi Bj Bk Bl; refine kd.m12 ?_; intro Ba Bb Bc Bd Be Bf Bg Bh Bi Bj Bk Bl
   revert Bm Bn Bo Bp Bq Br Bs Bt Bu Bv Bw Bx; refine kd.m12 ?_; intro Bm Bn Bo Bp Bq Br Bs Bt Bu Bv Bw Bx
   revert By Bz Ca Cb Cc Cd Ce Cf Cg Ch Ci Cj; refine kd.m12 ?_; intro By Bz Ca Cb Cc Cd Ce Cf Cg Ch Ci Cj
   replace K := hide ((unhide K).trans kd)
   have z26 := kd.size
   clear kd
   refine wp_region_held_drew (S := (fun w' => w'.cell? ⟨w.heap.size + 1, 0, none⟩ = some (.bool s1) ∧ w'.cell? ⟨w.heap.size + 1, 1, none⟩ = some (.slice a1 z1.length c1) ∧ w'.cell? ⟨w.heap.size + 1, 2, none⟩ = some (.int .i64 y1) ∧ w'.cell? ⟨w.heap.size + 1, 3, none⟩ = some (.bool s1b) ∧ w'.cell? ⟨w.heap.size + 1, 4, none⟩ = some (.slice a1b z1b.length c1b) ∧ w'.cell? ⟨w.heap.size + 1, 5, none⟩ = some (.int .i64 y1b) ∧ w'.cell? ⟨w11.heap.size, 0, none⟩ = some (.bool s1) ∧ w'.cell? ⟨w11.heap.size, 1, none⟩ = some (.slice ax1 z1.length dx1) ∧ w'.cell? ⟨w11.heap.size, 2, none⟩ = some (.int .i64 y1) ∧ w'.cell? ⟨w11.heap.size, 3, none⟩ = some (.bool s1b) ∧ w'.cell? ⟨w11.heap.size, 4, none⟩ = some (.slice ax1b z1b.length dx1b) ∧ w'.cell? ⟨w11.heap.size, 5, none⟩ = some (.int .i64 y1b))) (by kernel_rfl) ?_ (fun hH => ?_)
   ·exact ⟨Bg, Bh, Bi, Bj, Bk, Bl, By, Bz, Ca, Cb, Cc, Cd⟩
   refine wT (i := 0) (v := .agg #[.bool s1, .slice ax1 z1.length dx1, .int .i64 y1, .bool s1b, .slice ax1b z1b.length dx1b, .int .i64 y1b]) rfl (Or.inl ⟨by rfl, ?_⟩) hH ?_
   ·intro wq hSw
    try dsimp only at hSw
    go_simp
   try simp only [Act.put, zq1, zq2, zq3, zq4, zq5, zq6]
   refine wT (i := 1) (v := .agg #[.bool s1, .slice a1 z1.length c1, .int .i64 y1, .bool s1b, .slice a1b z1b.length c1b, .int .i64 y1b]) rfl (Or.inl ⟨by rfl, ?_⟩) hH ?_
   ·intro wq hSw
    try dsimp only at hSw
    go_simp
   try simp only [Act.put, zq1, zq2, zq3, zq4, zq5, zq6]
   refine wR 2 (by kernel_rfl) rfl (fun KK hK => ?_)
   simp only [zq1, zq2, zq3]
   rw [if_pos (by rfl)]
   refine wps1 6 (.tmp 60) _ rfl in_toV (.agg #[.bool s1, .slice a1 z1.length c1, .int .i64 y1, .bool s1b, .slice a1b z1b.length c1b, .int .i64 y1b]) rfl (toIv_any (s1) (y1) (s1b) (y1b) _ hn1 hn1b r1 r1b) ?_
   rintro e w27 ⟨v81, v81b, mm81, rfl, r81, r81b, hma81, hmb81, k27⟩
   refine ⟨_, rfl, ?_⟩
   revert r0 r0b r1 r1b rw0 rw0b; refine k27.n6 ?_; intro r0 r0b r1 r1b rw0 rw0b
   revert rx0 rx0b rx1 rx1b rg0 rg0b; refine k27.n6 ?_; intro rx0 rx0b rx1 rx1b rg0 rg0b
   revert Ba Bb Bc Bd Be Bf Bg Bh Bi Bj Bk Bl; refine k27.m12 ?_; intro Ba Bb Bc Bd Be Bf Bg Bh Bi Bj Bk Bl
   revert Bm Bn Bo Bp Bq Br Bs Bt Bu Bv Bw Bx; refine k27.m12 ?_; intro Bm Bn Bo Bp Bq Br Bs Bt Bu Bv Bw Bx
   revert By Bz Ca Cb Cc Cd Ce Cf Cg Ch Ci Cj; refine k27.m12 ?_; intro By Bz Ca Cb Cc Cd Ce Cf Cg Ch Ci Cj
   replace K := hide ((unhide K).trans k27)
   have z28 := k27.size
   clear k27
   clear hH
   refine hK.out _ _ ?_ (fun hH => ?_)
   ·exact ⟨Bg, Bh, Bi, Bj, Bk, Bl, By, Bz, Ca, Cb, Cc, Cd⟩
   clear hK KK
   try simp only [Act.put, zq1, zq2, zq3, zq4, zq5, zq6]
   refine wR 3 (by kernel_rfl) rfl (fun KK hK => ?_)
   simp only [zq1, zq2, zq3]
   rw [if_pos (by rfl)]
   refine wps2 8 (.tmp 59) (.tmp 61) _ rfl in_eqV (.agg #[.bool s1, .slice ax1 z1.length dx1, .int .i64 y1, .bool s1b, .slice ax1b z1b.length dx1b, .int .i64 y1b]) (.agg #[.bool s1, v81, .int .i64 y1, .bool s1b, v81b, .int .i64 y1b]) rfl rfl (eqIv_same (s1) (y1) (s1b) (y1b) _ rx1 rx1b r81 r81b) ?_
   rintro e w29 ⟨rfl, k29⟩
   refine ⟨_, rfl, ?_⟩
   revert r0 r0b r1 r1b rw0 rw0b; refine k29.n6 ?_; intro r0 r0b r1 r1b rw0 rw0b
   revert rx0 rx0b rx1 rx1b rg0 rg0b; refine k29.n6 ?_; intro rx0 rx0b rx1 rx1b rg0 rg0b
   revert r81 r81b; refine k29.n2 ?_; intro r81 r81b
   revert Ba Bb Bc Bd Be Bf Bg Bh Bi Bj Bk Bl; refine k29.m12 ?_; intro Ba Bb Bc Bd Be Bf Bg Bh Bi Bj Bk Bl
   revert Bm Bn Bo Bp Bq Br Bs Bt Bu Bv Bw Bx; refine k29.m12 ?_; intro Bm Bn Bo Bp Bq Br Bs Bt Bu Bv Bw Bx
   revert By Bz Ca Cb Cc Cd Ce Cf Cg Ch Ci Cj; refine k29.m12 ?_; intro By Bz Ca Cb Cc Cd Ce Cf Cg Ch Ci Cj
   replace K := hide ((unhide K).trans k29)
   have z30 := k29.size
   clear k29
   clear hH
   refine hK.out _ _ ?_ (fun hH => ?_)
   ·exact ⟨Bg, Bh, Bi, Bj, Bk, Bl, By, Bz, Ca, Cb, Cc, Cd⟩
   clear hK KK
   try simp only [Act.put, zq1, zq2, zq3, zq4, zq5, zq6]
   refine wT (i := 4) (v := .bool false) rfl (Or.inl ⟨by rfl, ?_⟩) hH ?_
   ·intro wq hSw
    try dsimp only at hSw
    go_simp
   try simp only [Act.put, zq1, zq2, zq3, zq4, zq5, zq6]
   refine wpAnyH_done (by kernel_rfl) ?_ _
   clear hH
   clear r81 r81b
   have S0' := unhide S0
   go_wp2_with fail
   refine (markIv_wide (s0) (y0) (s0b) (y0b) _ (1) (by omega) (by omega) (by omega) (by omega) hmax0 hmbx0 (by omega) rx0 rx0b).mono ?_
   rintro e w31 ⟨rfl, -, -, k31⟩
   replace r0 := r0.kept k31 (by omega)
   replace r0b := r0b.kept k31 (by omega)
   replace r1 := r1.kept k31 (by omega)
   replace r1b := r1b.kept k31 (by omega)
   replace rw0 := rw0.kept k31 (by omega)
   replace rw0b := rw0b.kept k31 (by omega)
   replace rx1 := rx1.kept k31 (by omega)
   replace rx1b := rx1b.kept k31 (by omega)
   replace rg0 := rg0.kept k31 (by omega)
   replace rg0b := rg0b.kept k31 (by omega)
   replace Ba := k31.cellOut (by dsimp only; omega) Ba
   replace Bb := k31.cellOut (by dsimp only; omega) Bb
   replace Bc := k31.cellOut (by dsimp only; omega) Bc
   replace Bd := k31.cellOut (by dsimp only; omega) Bd
   replace Be := k31.cellOut (by dsimp only; omega) Be
   replace Bf := k31.cellOut (by dsimp only; omega) Bf
   replace Bg := k31.cellOut (by dsimp only; omega) Bg
   replace Bh := k31.cellOut (by dsimp only; omega) Bh
   replace Bi := k31.cellOut (by dsimp only; omega) Bi
   replace Bj := k31.cellOut (by dsimp only; omega) Bj
   replace Bk := k31.cellOut (by dsimp only; omega) Bk
   replace Bl := k31.cellOut (by dsimp only; omega) Bl
   replace Bm := k31.cellOut (by dsimp only; omega) Bm
   replace Bn := k31.cellOut (by dsimp only; omega) Bn
   replace Bo := k31.cellOut (by dsimp only; omega) Bo
   replace Bp := k31.cellOut (by dsimp only; omega) Bp
   replace Bq := k31.cellOut (by dsimp only; omega) Bq
   replace Br := k31.cellOut (by dsimp only; omega) Br
   replace Bs := k31.cellOut (by dsimp only; omega) Bs
   replace Bt := k31.cellOut (by dsimp only; omega) Bt
   replace Bu := k31.cellOut (by dsimp only; omega) Bu
   replace Bv := k31.cellOut (by dsimp only; omega) Bv
   replace Bw := k31.cellOut (by dsimp only; omega) Bw
   replace Bx := k31.cellOut (by dsimp only; omega) Bx
   replace By := k31.cellOut (by dsimp only; omega) By
   replace Bz := k31.cellOut (by dsimp only; omega) Bz
   replace Ca := k31.cellOut (by dsimp only; omega) Ca
   replace Cb := k31.cellOut (by dsimp only; omega) Cb
   replace Cc := k31.cellOut (by dsimp only; omega) Cc
   replace Cd := k31.cellOut (by dsimp only; omega) Cd
   replace Ce := k31.cellOut (by dsimp only; omega) Ce
   replace Cf := k31.cellOut (by dsimp only; omega) Cf
   replace Cg := k31.cellOut (by dsimp only; omega) Cg
   replace Ch := k31.cellOut (by dsimp only; omega) Ch
   replace Ci := k31.cellOut (by dsimp only; omega) Ci
   replace Cj := k31.cellOut (by dsimp only; omega) Cj
   replace K := hide ((unhide K).wide k31 (by omega))
   have z31 := k31.size
   clear k31 rx0 rx0b
   go_wp2_with fail
   refine (markIv_wide (s1) (y1) (s1b) (y1b) _ ((1 + ((z0.length : Int) + (z0b.length : Int)))) (by omega) (by omega) (by omega) (by omega) hmax1 hmbx1 (by omega) rx1 rx1b).mono ?_
   rintro e w32 ⟨rfl, -, -, k32⟩
   replace r0 := r0.kept k32 (by omega)
   replace r0b := r0b.kept k32 (by omega)
   replace r1 := r1.kept k32 (by omega)
   replace r1b := r1b.kept k32 (by omega)
   replace rw0 := rw0.kept k32 (by omega)
   replace rw0b := rw0b.kept k32 (by omega)
   replace rg0 := rg0.kept k32 (by omega)
   replace rg0b := rg0b.kept k32 (by omega)
   replace Ba := k32.cellOut (by dsimp only; omega) Ba
   replace Bb := k32.cellOut (by dsimp only; omega) Bb
   replace Bc := k32.cellOut (by dsimp only; omega) Bc
   replace Bd := k32.cellOut (by dsimp only; omega) Bd
   replace Be := k32.cellOut (by dsimp only; omega) Be
   replace Bf := k32.cellOut (by dsimp only; omega) Bf
   replace Bg := k32.cellOut (by dsimp only; omega) Bg
   replace Bh := k32.cellOut (by dsimp only; omega) Bh
   replace Bi := k32.cellOut (by dsimp only; omega) Bi
   replace Bj := k32.cellOut (by dsimp only; omega) Bj
   replace Bk := k32.cellOut (by dsimp only; omega) Bk
   replace Bl := k32.cellOut (by dsimp only; omega) Bl
   replace Bm := k32.cellOut (by dsimp only; omega) Bm
   replace Bn := k32.cellOut (by dsimp only; omega) Bn
   replace Bo := k32.cellOut (by dsimp only; omega) Bo
   replace Bp := k32.cellOut (by dsimp only; omega) Bp
   replace Bq := k32.cellOut (by dsimp only; omega) Bq
   replace Br := k32.cellOut (by dsimp only; omega) Br
   replace Bs := k32.cellOut (by dsimp only; omega) Bs
   replace Bt := k32.cellOut (by dsimp only; omega) Bt
   replace Bu := k32.cellOut (by dsimp only; omega) Bu
   replace Bv := k32.cellOut (by dsimp only; omega) Bv
   replace Bw := k32.cellOut (by dsimp only; omega) Bw
   replace Bx := k32.cellOut (by dsimp only; omega) Bx
   replace By := k32.cellOut (by dsimp only; omega) By
   replace Bz := k32.cellOut (by dsimp only; omega) Bz
   replace Ca := k32.cellOut (by dsimp only; omega) Ca
   replace Cb := k32.cellOut (by dsimp only; omega) Cb
   replace Cc := k32.cellOut (by dsimp only; omega) Cc
   replace Cd := k32.cellOut (by dsimp only; omega) Cd
   replace Ce := k32.cellOut (by dsimp only; omega) Ce
   replace Cf := k32.cellOut (by dsimp only; omega) Cf
   replace Cg := k32.cellOut (by dsimp only; omega) Cg
   replace Ch := k32.cellOut (by dsimp only; omega) Ch
   replace Ci := k32.cellOut (by dsimp only; omega) Ci
   replace Cj := k32.cellOut (by dsimp only; omega) Cj
   replace K := hide ((unhide K).wide k32 (by omega))
   have z32 := k32.size
   clear k32 rx1 rx1b
   have nk : ¬ ((1 + ((z0.length : Int) + (z0b.length : Int))) + ((z1.length : Int) + (z1b.length : Int))) < 0 := by omega
   go_wp2_with fail
   refine (eqIv_same (G0) (H0) (G0b) (H0b) _ rg0 rg0b rw0 rw0b).mono ?_
   rintro e w33 ⟨rfl, k33⟩
   revert r0 r0b r1 r1b rw0 rw0b; refine k33.n6 ?_; intro r0 r0b r1 r1b rw0 rw0b
   revert rg0 rg0b; refine k33.n2 ?_; intro rg0 rg0b
   revert Ba Bb Bc Bd Be Bf Bg Bh Bi Bj Bk Bl; refine k33.m12 ?_; intro Ba Bb Bc Bd Be Bf Bg Bh Bi Bj Bk Bl
   revert Bm Bn Bo Bp Bq Br Bs Bt Bu Bv Bw Bx; refine k33.m12 ?_; intro Bm Bn Bo Bp Bq Br Bs Bt Bu Bv Bw Bx
   revert By Bz Ca Cb Cc Cd Ce Cf Cg Ch Ci Cj; refine k33.m12 ?_; intro By Bz Ca Cb Cc Cd Ce Cf Cg Ch Ci Cj
   replace K := hide ((unhide K).trans k33)
   have z34 := k33.size
   clear k33
   go_wp2_with fail
   refine (markIv_wide (G0) (H0) (G0b) (H0b) _ (1) (by omega) (by omega) (by omega) (by omega) hmag0 hmbg0 (by omega) rg0 rg0b).mono ?_
   rintro e w35 ⟨rfl, rm0, rm0b, k35⟩
   replace r0 := r0.kept k35 (by omega)
   replace r0b := r0b.kept k35 (by omega)
   replace r1 := r1.kept k35 (by omega)
   replace r1b := r1b.kept k35 (by omega)
   replace rw0 := rw0.kept k35 (by omega)
   replace rw0b := rw0b.kept k35 (by omega)
   replace Ba := k35.cellOut (by dsimp only; omega) Ba
   replace Bb := k35.cellOut (by dsimp only; omega) Bb
   replace Bc := k35.cellOut (by dsimp only; omega) Bc
   replace Bd := k35.cellOut (by dsimp only; omega) Bd
   replace Be := k35.cellOut (by dsimp only; omega) Be
   replace Bf := k35.cellOut (by dsimp only; omega) Bf
   replace Bg := k35.cellOut (by dsimp only; omega) Bg
   replace Bh := k35.cellOut (by dsimp only; omega) Bh
   replace Bi := k35.cellOut (by dsimp only; omega) Bi
   replace Bj := k35.cellOut (by dsimp only; omega) Bj
   replace Bk := k35.cellOut (by dsimp only; omega) Bk
   replace Bl := k35.cellOut (by dsimp only; omega) Bl
   replace Bm := k35.cellOut (by dsimp only; omega) Bm
   replace Bn := k35.cellOut (by dsimp only; omega) Bn
   replace Bo := k35.cellOut (by dsimp only; omega) Bo
   replace Bp := k35.cellOut (by dsimp only; omega) Bp
   replace Bq := k35.cellOut (by dsimp only; omega) Bq
   replace Br := k35.cellOut (by dsimp only; omega) Br
   replace Bs := k35.cellOut (by dsimp only; omega) Bs
   replace Bt := k35.cellOut (by dsimp only; omega) Bt
   replace Bu := k35.cellOut (by dsimp only; omega) Bu
   replace Bv := k35.cellOut (by dsimp only; omega) Bv
   replace Bw := k35.cellOut (by dsimp only; omega) Bw
   replace Bx := k35.cellOut (by dsimp only; omega) Bx
   replace By := k35.cellOut (by dsimp only; omega) By
   replace Bz := k35.cellOut (by dsimp only; omega) Bz
   replace Ca := k35.cellOut (by dsimp only; omega) Ca
   replace Cb := k35.cellOut (by dsimp only; omega) Cb
   replace Cc := k35.cellOut (by dsimp only; omega) Cc
   replace Cd := k35.cellOut (by dsimp only; omega) Cd
   replace Ce := k35.cellOut (by dsimp only; omega) Ce
   replace Cf := k35.cellOut (by dsimp only; omega) Cf
   replace Cg := k35.cellOut (by dsimp only; omega) Cg
   replace Ch := k35.cellOut (by dsimp only; omega) Ch
   replace Ci := k35.cellOut (by dsimp only; omega) Ci
   replace Cj := k35.cellOut (by dsimp only; omega) Cj
   replace K := hide ((unhide K).wide k35 (by omega))
   have z35 := k35.size
   clear k35 rg0 rg0b
   go_wp2_with fail
   refine (heldIv_any (G0) (H0) (G0b) (H0b) _ (1) (by omega) (by omega) (by omega) hq0 hq0b rm0 rm0b).mono ?_
   rintro e w36 ⟨rfl, k36⟩
   revert r0 r0b r1 r1b rw0 rw0b; refine k36.n6 ?_; intro r0 r0b r1 r1b rw0 rw0b
   revert rm0 rm0b; refine k36.n2 ?_; intro rm0 rm0b
   revert Ba Bb Bc Bd Be Bf Bg Bh Bi Bj Bk Bl; refine k36.m12 ?_; intro Ba Bb Bc Bd Be Bf Bg Bh Bi Bj Bk Bl
   revert Bm Bn Bo Bp Bq Br Bs Bt Bu Bv Bw Bx; refine k36.m12 ?_; intro Bm Bn Bo Bp Bq Br Bs Bt Bu Bv Bw Bx
   revert By Bz Ca Cb Cc Cd Ce Cf Cg Ch Ci Cj; refine k36.m12 ?_; intro By Bz Ca Cb Cc Cd Ce Cf Cg Ch Ci Cj
   replace K := hide ((unhide K).trans k36)
   have z37 := k36.size
   clear k36
   have nq037 : ¬ (1 + ((L0.length : Int) + (L0b.length : Int))) < 0 := by omega
   go_upto_region 31 with fail
   go_cut [15, 16] (fun q0 q1 wx => ∃ X0 v0 v0b, q0 = .pointer (some ⟨X0, 0, none⟩) ∧ q1 = .bool B1 ∧ wx.cell? ⟨X0, 0, none⟩ = some (.bool G0) ∧ wx.cell? ⟨X0, 1, none⟩ = some (v0) ∧ wx.cell? ⟨X0, 2, none⟩ = some (.int .i64 H0) ∧ wx.cell? ⟨X0, 3, none⟩ = some (.bool G0b) ∧ wx.cell? ⟨X0, 4, none⟩ = some (v0b) ∧ wx.cell? ⟨X0, 5, none⟩ = some (.int .i64 H0b) ∧ Row .i64 true w36.heap.size wx.heap.size wx v0 L0 ∧ Row .i64 true w36.heap.size wx.heap.size wx v0b L0b ∧ w36.heap.size ≤ X0 ∧ X0 < wx.heap.size ∧ Kept 0 0 w36 wx)
   case first =>
    have kw := Kept.refl 0 0 w36
    have kd := (Kept.refl 0 0 w36).drew
    revert r0 r0b r1 r1b rw0 rw0b; refine kd.n6 ?_; intro r0 r0b r1 r1b rw0 rw0b
    revert rm0 rm0b; refine kd.n2 ?_; intro rm0 rm0b
    replace kw := kw.trans kd
    revert Ba Bb Bc Bd Be Bf Bg Bh Bi Bj Bk Bl; refine kd.m12 ?_; intro Ba Bb Bc Bd Be Bf Bg Bh Bi Bj Bk Bl
    revert Bm Bn Bo Bp Bq Br Bs Bt Bu Bv Bw Bx; refine kd.m12 ?_; intro Bm Bn Bo Bp Bq Br Bs Bt Bu Bv Bw Bx
    revert By Bz Ca Cb Cc Cd Ce Cf Cg Ch Ci Cj; refine kd.m12 ?_; intro By Bz Ca Cb Cc Cd Ce Cf Cg Ch Ci Cj
    replace K := hide ((unhide K).trans kd)
    have z38 := kd.size
    clear kd
    refine wp_region_held_drew (S := (fun w' => w'.cell? ⟨w.heap.size, 0, none⟩ = some (.bool s0) ∧ w'.cell? ⟨w.heap.size, 1, none⟩ = some (.slice a0 z0.length c0) ∧ w'.cell? ⟨w.heap.size, 2, none⟩ = some (.int .i64 y0) ∧ w'.cell? ⟨w.heap.size, 3, none⟩ = some (.bool s0b) ∧ w'.cell? ⟨w.heap.size, 4, none⟩ = some (.slice a0b z0b.length c0b) ∧ w'.cell? ⟨w.heap.size, 5, none⟩ = some (.int .i64 y0b) ∧ w'.cell? ⟨w.heap.size + 1, 0, none⟩ = some (.bool s1) ∧ w'.cell? ⟨w.heap.size + 1, 1, none⟩ = some (.slice a1 z1.length c1) ∧ w'.cell? ⟨w.heap.size + 1, 2, none⟩ = some (.int .i64 y1) ∧ w'.cell? ⟨w.heap.size + 1, 3, none⟩ = some (.bool s1b) ∧ w'.cell? ⟨w.heap.size + 1, 4, none⟩ = some (.slice a1b z1b.length c1b) ∧ w'.cell? ⟨w.heap.size + 1, 5, none⟩ = some (.int .i64 y1b))) (by kernel_rfl) ?_ (fun hH => ?_)
    ·exact ⟨Ba, Bb, Bc, Bd, Be, Bf, Bg, Bh, Bi, Bj, Bk, Bl⟩
    generalize w36.drew = wd at *
    refine wT (i := 0) (v := .agg #[.bool s0, .slice a0 z0.length c0, .int .i64 y0, .bool s0b, .slice a0b z0b.length c0b, .int .i64 y0b]) rfl (Or.inl ⟨by rfl, ?_⟩) hH ?_
    ·intro wq hSw
     try dsimp only at hSw
     go_simp
    try simp only [Act.put, zq1, zq2, zq3, zq4, zq5, zq6]
    refine wT (i := 2) (v := .agg #[.bool s1, .slice a1 z1.length c1, .int .i64 y1, .bool s1b, .slice a1b z1b.length c1b, .int .i64 y1b]) rfl (Or.inl ⟨by rfl, ?_⟩) hH ?_
    ·intro wq hSw
     try dsimp only at hSw
     go_simp
    try simp only [Act.put, zq1, zq2, zq3, zq4, zq5, zq6]
    refine wpAnyH_ready (rs := [1, 8]) (by kernel_rfl) (by simp) ?_
    refine AllReadyH.cons rfl (fun KK hK => ?_) (AllReadyH.cons rfl (fun KK hK => ?_) AllReadyH.nil)
    ·simp only [zq1, zq2, zq3]
     rw [if_pos (by rfl)]
     refine wps1 6 (.tmp 95) _ rfl in_toV (.agg #[.bool s0, .slice a0 z0.length c0, .int .i64 y0, .bool s0b, .slice a0b z0b.length c0b, .int .i64 y0b]) rfl (toIv_any (s0) (y0) (s0b) (y0b) _ hn0 hn0b r0 r0b) ?_
     rintro e w39 ⟨v70, v70b, mm70, rfl, r70, r70b, hma70, hmb70, k39⟩
     refine ⟨_, rfl, ?_⟩
     revert r0 r0b r1 r1b rw0 rw0b; refine k39.n6 ?_; intro r0 r0b r1 r1b rw0 rw0b
     revert rm0 rm0b; refine k39.n2 ?_; intro rm0 rm0b
     replace kw := kw.trans k39
     revert Ba Bb Bc Bd Be Bf Bg Bh Bi Bj Bk Bl; refine k39.m12 ?_; intro Ba Bb Bc Bd Be Bf Bg Bh Bi Bj Bk Bl
     revert Bm Bn Bo Bp Bq Br Bs Bt Bu Bv Bw Bx; refine k39.m12 ?_; intro Bm Bn Bo Bp Bq Br Bs Bt Bu Bv Bw Bx
     revert By Bz Ca Cb Cc Cd Ce Cf Cg Ch Ci Cj; refine k39.m12 ?_; intro By Bz Ca Cb Cc Cd Ce Cf Cg Ch Ci Cj
     replace K := hide ((unhide K).trans k39)
     have z40 := k39.size
     clear k39
     clear hH
     refine hK.out _ _ ?_ (fun hH => ?_)
     ·exact ⟨Ba, Bb, Bc, Bd, Be, Bf, Bg, Bh, Bi, Bj, Bk, Bl⟩
     clear hK KK
     try simp only [Act.put, zq1, zq2, zq3, zq4, zq5, zq6]
     refine wpAnyH_ready (rs := [3, 8]) (by kernel_rfl) (by simp) ?_
     refine AllReadyH.cons rfl (fun KK hK => ?_) (AllReadyH.cons rfl (fun KK hK => ?_) AllReadyH.nil)
     ·simp only [zq1, zq2, zq3]
      rw [if_pos (by rfl)]
      refine wps1 6 (.tmp 97) _ rfl in_toV (.agg #[.bool s1, .slice a1 z1.length c1, .int .i64 y1, .bool s1b, .slice a1b z1b.length c1b, .int .i64 y1b]) rfl (toIv_any (s1) (y1) (s1b) (y1b) _ hn1 hn1b r1 r1b) ?_
      rintro e w41 ⟨v71, v71b, mm71, rfl, r71, r71b, hma71, hmb71, k41⟩
      refine ⟨_, rfl, ?_⟩
      revert r0 r0b r1 r1b rw0 rw0b; refine k41.n6 ?_; intro r0 r0b r1 r1b rw0 rw0b
      replace rm0 := rm0.kp k41
      replace rm0b := rm0b.kp k41
      replace r70 := r70.kp k41
      replace r70b := r70b.kp k41
      replace kw := kw.trans k41
      revert Ba Bb Bc Bd Be Bf Bg Bh Bi Bj Bk Bl; refine k41.m12 ?_; intro Ba Bb Bc Bd Be Bf Bg Bh Bi Bj Bk Bl
      revert Bm Bn Bo Bp Bq Br Bs Bt Bu Bv Bw Bx; refine k41.m12 ?_; intro Bm Bn Bo Bp Bq Br Bs Bt Bu Bv Bw Bx
      revert By Bz Ca Cb Cc Cd Ce Cf Cg Ch Ci Cj; refine k41.m12 ?_; intro By Bz Ca Cb Cc Cd Ce Cf Cg Ch Ci Cj
      replace K := hide ((unhide K).trans k41)
      have z42 := k41.size
      clear k41
      clear hH
      refine hK.out _ _ ?_ (fun hH => ?_)
      ·exact ⟨Ba, Bb, Bc, Bd, Be, Bf, Bg, Bh, Bi, Bj, Bk, Bl⟩
      clear hK KK
      try simp only [Act.put, zq1, zq2, zq3, zq4, zq5, zq6]
      refine wpAnyH_ready (rs := [4, 8]) (by kernel_rfl) (by simp) ?_
      refine AllReadyH.cons rfl (fun KK hK => ?_) (AllReadyH.cons rfl (fun KK hK => ?_) AllReadyH.nil)
      ·simp only [zq1, zq2, zq3]
       rw [if_pos (by rfl)]
       have mk := (ivmul_implD s0 y0 gy0.1 gy0.2 s0b y0b gy0b.1 gy0b.2 s1 y1 gy1.1 gy1.2 s1b y1b gy1b.1 gy1b.2 w41 r70 r70b r71 r71b (T.kept (unhide K))).mono (fun e w' h => IvAns.weak h)
       unfold IvAnsS at mk
       simp only [unhide EB1, unhide EL0, unhide EH0, unhide EG0, unhide EL0b, unhide EH0b, unhide EG0b] at mk
       refine wps2 7 (.tmp 96) (.tmp 98) _ rfl in_impl_IvMul (.agg #[.bool s0, v70, .int .i64 y0, .bool s0b, v70b, .int .i64 y0b]) (.agg #[.bool s1, v71, .int .i64 y1, .bool s1b, v71b, .int .i64 y1b]) rfl rfl mk ?_
       rintro e w43 ⟨v90, v90b, rfl, r90, r90b, k43⟩
       refine ⟨_, rfl, ?_⟩
       clear mk
       revert r0 r0b r1 r1b rw0 rw0b; refine k43.n6 ?_; intro r0 r0b r1 r1b rw0 rw0b
       replace rm0 := rm0.kp k43
       replace rm0b := rm0b.kp k43
       replace r70 := r70.kp k43
       replace r70b := r70b.kp k43
       replace r71 := r71.kp k43
       replace r71b := r71b.kp k43
       replace kw := kw.trans k43
       revert Ba Bb Bc Bd Be Bf Bg Bh Bi Bj Bk Bl; refine k43.m12 ?_; intro Ba Bb Bc Bd Be Bf Bg Bh Bi Bj Bk Bl
       revert Bm Bn Bo Bp Bq Br Bs Bt Bu Bv Bw Bx; refine k43.m12 ?_; intro Bm Bn Bo Bp Bq Br Bs Bt Bu Bv Bw Bx
       revert By Bz Ca Cb Cc Cd Ce Cf Cg Ch Ci Cj; refine k43.m12 ?_; intro By Bz Ca Cb Cc Cd Ce Cf Cg Ch Ci Cj
       replace K := hide ((unhide K).trans k43)
       have z44 := k43.size
       obtain ⟨a90, d90, hv⟩ := Row.form' r90
       subst hv
       obtain ⟨a90b, d90b, hv⟩ := Row.form' r90b
       subst hv
       clear k43
       clear hH
       refine hK.out _ _ ?_ (fun hH => ?_)
       ·exact ⟨Ba, Bb, Bc, Bd, Be, Bf, Bg, Bh, Bi, Bj, Bk, Bl⟩
       clear hK KK
       try simp only [Act.put, zq1, zq2, zq3, zq4, zq5, zq6]
       refine wT (i := 5) (v := .tuple #[.agg #[.bool G0, .slice a90 L0.length d90, .int .i64 H0, .bool G0b, .slice a90b L0b.length d90b, .int .i64 H0b], .bool B1]) rfl (Or.inl ⟨by rfl, ?_⟩) hH ?_
       ·intro wq hSw
        try dsimp only at hSw
        go_simp
       try simp only [Act.put, zq1, zq2, zq3, zq4, zq5, zq6]
       refine wT (i := 6) (v := .agg #[.bool G0, .slice a90 L0.length d90, .int .i64 H0, .bool G0b, .slice a90b L0b.length d90b, .int .i64 H0b]) rfl (Or.inl ⟨by rfl, ?_⟩) hH ?_
       ·intro wq hSw
        try dsimp only at hSw
        go_simp
       try simp only [Act.put, zq1, zq2, zq3, zq4, zq5, zq6]
       refine wT (i := 7) (v := .bool B1) rfl (Or.inl ⟨by rfl, ?_⟩) hH ?_
       ·intro wq hSw
        try dsimp only at hSw
        go_simp
       try simp only [Act.put, zq1, zq2, zq3, zq4, zq5, zq6]
       refine wR 8 (by kernel_rfl) rfl (fun KK hK => ?_)
       ·simp only [zq1, zq2, zq3]
        rw [if_pos (by rfl)]
        go_simp
        have kn := (Kept.refl 0 0 w43).alloc (.cells #[.bool false, .slice none 0 0, .int .i64 0, .bool false, .slice none 0 0, .int .i64 0] 38)
        revert r0 r0b r1 r1b rw0 rw0b; refine kn.n6 ?_; intro r0 r0b r1 r1b rw0 rw0b
        revert rm0 rm0b r70 r70b r71 r71b; refine kn.n6 ?_; intro rm0 rm0b r70 r70b r71 r71b
        revert r90 r90b; refine kn.n2 ?_; intro r90 r90b
        replace kw := kw.trans kn
        revert Ba Bb Bc Bd Be Bf Bg Bh Bi Bj Bk Bl; refine kn.m12 ?_; intro Ba Bb Bc Bd Be Bf Bg Bh Bi Bj Bk Bl
        revert Bm Bn Bo Bp Bq Br Bs Bt Bu Bv Bw Bx; refine kn.m12 ?_; intro Bm Bn Bo Bp Bq Br Bs Bt Bu Bv Bw Bx
        revert By Bz Ca Cb Cc Cd Ce Cf Cg Ch Ci Cj; refine kn.m12 ?_; intro By Bz Ca Cb Cc Cd Ce Cf Cg Ch Ci Cj
        replace K := hide ((unhide K).trans kn)
        have z46 := kn.size
        clear kn
        have szx0_ : w43.heap.size < (w43.alloc (.cells #[.bool false, .slice none 0 0, .int .i64 0, .bool false, .slice none 0 0, .int .i64 0] 38)).heap.size := by simp
        have Ck : (w43.alloc (.cells #[.bool false, .slice none 0 0, .int .i64 0, .bool false, .slice none 0 0, .int .i64 0] 38)).cell? ⟨w43.heap.size, 0, none⟩ = some (.bool false) := new_cell2 _ _ _ _ _ _ rfl rfl
        have Cq : (w43.alloc (.cells #[.bool false, .slice none 0 0, .int .i64 0, .bool false, .slice none 0 0, .int .i64 0] 38)).frozen? ⟨w43.heap.size, 0, none⟩ = false := new_loose2 _ _ _ _ _ rfl
        have Cl : (w43.alloc (.cells #[.bool false, .slice none 0 0, .int .i64 0, .bool false, .slice none 0 0, .int .i64 0] 38)).cell? ⟨w43.heap.size, 1, none⟩ = some (.slice none 0 0) := new_cell2 _ _ _ _ _ _ rfl rfl
        have Cr : (w43.alloc (.cells #[.bool false, .slice none 0 0, .int .i64 0, .bool false, .slice none 0 0, .int .i64 0] 38)).frozen? ⟨w43.heap.size, 1, none⟩ = false := new_loose2 _ _ _ _ _ rfl
        have Cm : (w43.alloc (.cells #[.bool false, .slice none 0 0, .int .i64 0, .bool false, .slice none 0 0, .int .i64 0] 38)).cell? ⟨w43.heap.size, 2, none⟩ = some (.int .i64 0) := new_cell2 _ _ _ _ _ _ rfl rfl
        have Cs : (w43.alloc (.cells #[.bool false, .slice none 0 0, .int .i64 0, .bool false, .slice none 0 0, .int .i64 0] 38)).frozen? ⟨w43.heap.size, 2, none⟩ = false := new_loose2 _ _ _ _ _ rfl
        have Cn : (w43.alloc (.cells #[.bool false, .slice none 0 0, .int .i64 0, .bool false, .slice none 0 0, .int .i64 0] 38)).cell? ⟨w43.heap.size, 3, none⟩ = some (.bool false) := new_cell2 _ _ _ _ _ _ rfl rfl
        have Ct : (w43.alloc (.cells #[.bool false, .slice none 0 0, .int .i64 0, .bool false, .slice none 0 0, .int .i64 0] 38)).frozen? ⟨w43.heap.size, 3, none⟩ = false := new_loose2 _ _ _ _ _ rfl
        have Co : (w43.alloc (.cells #[.bool false, .slice none 0 0, .int .i64 0, .bool false, .slice none 0 0, .int .i64 0] 38)).cell? ⟨w43.heap.size, 4, none⟩ = some (.slice none 0 0) := new_cell2 _ _ _ _ _ _ rfl rfl
        have Cu : (w43.alloc (.cells #[.bool false, .slice none 0 0, .int .i64 0, .bool false, .slice none 0 0, .int .i64 0] 38)).frozen? ⟨w43.heap.size, 4, none⟩ = false := new_loose2 _ _ _ _ _ rfl
        have Cp : (w43.alloc (.cells #[.bool false, .slice none 0 0, .int .i64 0, .bool false, .slice none 0 0, .int .i64 0] 38)).cell? ⟨w43.heap.size, 5, none⟩ = some (.int .i64 0) := new_cell2 _ _ _ _ _ _ rfl rfl
        have Cv : (w43.alloc (.cells #[.bool false, .slice none 0 0, .int .i64 0, .bool false, .slice none 0 0, .int .i64 0] 38)).frozen? ⟨w43.heap.size, 5, none⟩ = false := new_loose2 _ _ _ _ _ rfl
        clear hH
        refine hK.out _ _ ?_ (fun hH => ?_)
        ·exact ⟨Ba, Bb, Bc, Bd, Be, Bf, Bg, Bh, Bi, Bj, Bk, Bl⟩
        clear hK KK
        try simp only [Act.put, zq1, zq2, zq3, zq4, zq5, zq6]
        generalize w43.alloc (.cells #[.bool false, .slice none 0 0, .int .i64 0, .bool false, .slice none 0 0, .int .i64 0] 38) = w45 at *
        refine wR 9 (by kernel_rfl) rfl (fun KK hK => ?_)
        simp only [zq1, zq2, zq3]
        rw [if_pos (by rfl)]
        go_simp
        clear hH
        refine hK.out _ _ ?_ (fun hH => ?_)
        ·have sq := unhide S0; exact ⟨(cw6 (by dsimp only; omega) Ba), (cw6 (by dsimp only; omega) Bb), (cw6 (by dsimp only; omega) Bc), (cw6 (by dsimp only; omega) Bd), (cw6 (by dsimp only; omega) Be), (cw6 (by dsimp only; omega) Bf), (cw6 (by dsimp only; omega) Bg), (cw6 (by dsimp only; omega) Bh), (cw6 (by dsimp only; omega) Bi), (cw6 (by dsimp only; omega) Bj), (cw6 (by dsimp only; omega) Bk), (cw6 (by dsimp only; omega) Bl)⟩
        clear hK KK
        try simp only [Act.put, zq1, zq2, zq3, zq4, zq5, zq6]
        refine wT (i := 10) (v := .bool B1) rfl (Or.inl ⟨by rfl, ?_⟩) hH ?_
        ·intro wq hSw
         try dsimp only at hSw
         go_simp
        try simp only [Act.put, zq1, zq2, zq3, zq4, zq5, zq6]
        refine wpAnyH_done (by kernel_rfl) ?_ _
        clear hH
        go_wp2_with fail
        go_meet
        exact ⟨_, _, _, rfl, rfl, law_setV G0 H0 G0b H0b kw Ck Cl Cm Cn Co Cp r90 r90b (by omega) (by omega) (by omega) (by omega) (by omega)⟩
      ·simp only [zq1, zq2, zq3]
       rw [if_pos (by rfl)]
       go_simp
       have kn := (Kept.refl 0 0 w41).alloc (.cells #[.bool false, .slice none 0 0, .int .i64 0, .bool false, .slice none 0 0, .int .i64 0] 38)
       replace r0 := r0.kp kn
       replace r0b := r0b.kp kn
       replace r1 := r1.kp kn
       replace r1b := r1b.kp kn
       replace rw0 := rw0.kp kn
       replace rw0b := rw0b.kp kn
       replace rm0 := rm0.kp kn
       replace rm0b := rm0b.kp kn
       replace r70 := r70.kp kn
       replace r70b := r70b.kp kn
       replace r71 := r71.kp kn
       replace r71b := r71b.kp kn
       replace kw := kw.trans kn
       replace Ba := kn.cell0 Ba
       replace Bb := kn.cell0 Bb
       replace Bc := kn.cell0 Bc
       replace Bd := kn.cell0 Bd
       replace Be := kn.cell0 Be
       replace Bf := kn.cell0 Bf
       replace Bg := kn.cell0 Bg
       replace Bh := kn.cell0 Bh
       replace Bi := kn.cell0 Bi
       replace Bj := kn.cell0 Bj
       replace Bk := kn.cell0 Bk
       replace Bl := kn.cell0 Bl
       replace Bm := kn.cell0 Bm
       replace Bn := kn.cell0 Bn
       replace Bo := kn.cell0 Bo
       replace Bp := kn.cell0 Bp
       replace Bq := kn.cell0 Bq
       replace Br := kn.cell0 Br
       replace Bs := kn.cell0 Bs
       replace Bt := kn.cell0 Bt
       replace Bu := kn.cell0 Bu
       replace Bv := kn.cell0 Bv
       replace Bw := kn.cell0 Bw
       replace Bx := kn.cell0 Bx
       replace By := kn.cell0 By
       replace Bz := kn.cell0 Bz
       replace Ca := kn.cell0 Ca
       replace Cb := kn.cell0 Cb
       replace Cc := kn.cell0 Cc
       replace Cd := kn.cell0 Cd
       replace Ce := kn.cell0 Ce
       replace Cf := kn.cell0 Cf
       replace Cg := kn.cell0 Cg
       replace Ch := kn.cell0 Ch
       replace Ci := kn.cell0 Ci
       replace Cj := kn.cell0 Cj
       replace K := hide ((unhide K).trans kn)
       have z44 := kn.size
       clear kn
       have szx0_ : w41.heap.size < (w41.alloc (.cells #[.bool false, .slice none 0 0, .int .i64 0, .bool false, .slice none 0 0, .int .i64 0] 38)).heap.size := by simp
       have Ck : (w41.alloc (.cells #[.bool false, .slice none 0 0, .int .i64 0, .bool false, .slice none 0 0, .int .i64 0] 38)).cell? ⟨w41.heap.size, 0, none⟩ = some (.bool false) := new_cell2 _ _ _ _ _ _ rfl rfl
       have Cq : (w41.alloc (.cells #[.bool false, .slice none 0 0, .int .i64 0, .bool false, .slice none 0 0, .int .i64 0] 38)).frozen? ⟨w41.heap.size, 0, none⟩ = false := new_loose2 _ _ _ _ _ rfl
       have Cl : (w41.alloc (.cells #[.bool false, .slice none 0 0, .int .i64 0, .bool false, .slice none 0 0, .int .i64 0] 38)).cell? ⟨w41.heap.size, 1, none⟩ = some (.slice none 0 0) := new_cell2 _ _ _ _ _ _ rfl rfl
       have Cr : (w41.alloc (.cells #[.bool false, .slice none 0 0, .int .i64 0, .bool false, .slice none 0 0, .int .i64 0] 38)).frozen? ⟨w41.heap.size, 1, none⟩ = false := new_loose2 _ _ _ _ _ rfl
       have Cm : (w41.alloc (.cells #[.bool false, .slice none 0 0, .int .i64 0, .bool false, .slice none 0 0, .int .i64 0] 38)).cell? ⟨w41.heap.size, 2, none⟩ = some (.int .i64 0) := new_cell2 _ _ _ _ _ _ rfl rfl
       have Cs : (w41.alloc (.cells #[.bool false, .slice none 0 0, .int .i64 0, .bool false, .slice none 0 0, .int .i64 0] 38)).frozen? ⟨w41.heap.size, 2, none⟩ = false := new_loose2 _ _ _ _ _ rfl
       have Cn : (w41.alloc (.cells #[.bool false, .slice none 0 0, .int .i64 0, .bool false, .slice none 0 0, .int .i64 0] 38)).cell? ⟨w41.heap.size, 3, none⟩ = some (.bool false) := new_cell2 _ _ _ _ _ _ rfl rfl
       have Ct : (w41.alloc (.cells #[.bool false, .slice none 0 0, .int .i64 0, .bool false, .slice none 0 0, .int .i64 0] 38)).frozen? ⟨w41.heap.size, 3, none⟩ = false := new_loose2 _ _ _ _ _ rfl
       have Co : (w41.alloc (.cells #[.bool false, .slice none 0 0, .int .i64 0, .bool false, .slice none 0 0, .int .i64 0] 38)).cell? ⟨w41.heap.size, 4, none⟩ = some (.slice none 0 0) := new_cell2 _ _ _ _ _ _ rfl rfl
       have Cu : (w41.alloc (.cells #[.bool false, .slice none 0 0, .int .i64 0, .bool false, .slice none 0 0, .int .i64 0] 38)).frozen? ⟨w41.heap.size, 4, none⟩ = false := new_loose2 _ _ _ _ _ rfl
       have Cp : (w41.alloc (.cells #[.bool false, .slice none 0 0, .int .i64 0, .bool false, .slice none 0 0, .int .i64 0] 38)).cell? ⟨w41.heap.size, 5, none⟩ = some (.int .i64 0) := new_cell2 _ _ _ _ _ _ rfl rfl
       have Cv : (w41.alloc (.cells #[.bool false, .slice none 0 0, .int .i64 0, .bool false, .slice none 0 0, .int .i64 0] 38)).frozen? ⟨w41.heap.size, 5, none⟩ = false := new_loose2 _ _ _ _ _ rfl
       clear hH
       refine hK.out _ _ ?_ (fun hH => ?_)
       ·exact ⟨Ba, Bb, Bc, Bd, Be, Bf, Bg, Bh, Bi, Bj, Bk, Bl⟩
       clear hK KK
       try simp only [Act.put, zq1, zq2, zq3, zq4, zq5, zq6]
       generalize w41.alloc (.cells #[.bool false, .slice none 0 0, .int .i64 0, .bool false, .slice none 0 0, .int .i64 0] 38) = w43 at *
       refine wR 4 (by kernel_rfl) rfl (fun KK hK => ?_)
       ·simp only [zq1, zq2, zq3]
        rw [if_pos (by rfl)]
        have mk := (ivmul_implD s0 y0 gy0.1 gy0.2 s0b y0b gy0b.1 gy0b.2 s1 y1 gy1.1 gy1.2 s1b y1b gy1b.1 gy1b.2 w43 r70 r70b r71 r71b (T.kept (unhide K))).mono (fun e w' h => IvAns.weak h)
        unfold IvAnsS at mk
        simp only [unhide EB1, unhide EL0, unhide EH0, unhide EG0, unhide EL0b, unhide EH0b, unhide EG0b] at mk
        refine wps2 7 (.tmp 96) (.tmp 98) _ rfl in_impl_IvMul (.agg #[.bool s0, v70, .int .i64 y0, .bool s0b, v70b, .int .i64 y0b]) (.agg #[.bool s1, v71, .int .i64 y1, .bool s1b, v71b, .int .i64 y1b]) rfl rfl mk ?_
        rintro e w45 ⟨v90, v90b, rfl, r90, r90b, k45⟩
        refine ⟨_, rfl, ?_⟩
        clear mk
        revert r0 r0b r1 r1b rw0 rw0b; refine k45.n6 ?_; intro r0 r0b r1 r1b rw0 rw0b
        revert rm0 rm0b r70 r70b r71 r71b; refine k45.n6 ?_; intro rm0 rm0b r70 r70b r71 r71b
        replace kw := kw.trans k45
        replace Cq := k45.loose0 (zbl Ck) Cq
        replace Cr := k45.loose0 (zbl Cl) Cr
        replace Cs := k45.loose0 (zbl Cm) Cs
        replace Ct := k45.loose0 (zbl Cn) Ct
        replace Cu := k45.loose0 (zbl Co) Cu
        replace Cv := k45.loose0 (zbl Cp) Cv
        revert Ba Bb Bc Bd Be Bf Bg Bh Bi Bj Bk Bl; refine k45.m12 ?_; intro Ba Bb Bc Bd Be Bf Bg Bh Bi Bj Bk Bl
        revert Bm Bn Bo Bp Bq Br Bs Bt Bu Bv Bw Bx; refine k45.m12 ?_; intro Bm Bn Bo Bp Bq Br Bs Bt Bu Bv Bw Bx
        revert By Bz Ca Cb Cc Cd Ce Cf Cg Ch Ci Cj; refine k45.m12 ?_; intro By Bz Ca Cb Cc Cd Ce Cf Cg Ch Ci Cj
        revert Ck Cl Cm Cn Co Cp; refine k45.m6 ?_; intro Ck Cl Cm Cn Co Cp
        replace K := hide ((unhide K).trans k45)
        have z46 := k45.size
        obtain ⟨a90, d90, hv⟩ := Row.form' r90
        subst hv
        obtain ⟨a90b, d90b, hv⟩ := Row.form' r90b
        subst hv
        clear k45
        clear hH
        refine hK.out _ _ ?_ (fun hH => ?_)
        ·exact ⟨Ba, Bb, Bc, Bd, Be, Bf, Bg, Bh, Bi, Bj, Bk, Bl⟩
        clear hK KK
        try simp only [Act.put, zq1, zq2, zq3, zq4, zq5, zq6]
        refine wT (i := 5) (v := .tuple #[.agg #[.bool G0, .slice a90 L0.length d90, .int .i64 H0, .bool G0b, .slice a90b L0b.length d90b, .int .i64 H0b], .bool B1]) rfl (Or.inl ⟨by rfl, ?_⟩) hH ?_
        ·intro wq hSw
         try dsimp only at hSw
         go_simp
        try simp only [Act.put, zq1, zq2, zq3, zq4, zq5, zq6]
        refine wT (i := 6) (v := .agg #[.bool G0, .slice a90 L0.length d90, .int .i64 H0, .bool G0b, .slice a90b L0b.length d90b, .int .i64 H0b]) rfl (Or.inl ⟨by rfl, ?_⟩) hH ?_
        ·intro wq hSw
         try dsimp only at hSw
         go_simp
        try simp only [Act.put, zq1, zq2, zq3, zq4, zq5, zq6]
        refine wT (i := 7) (v := .bool B1) rfl (Or.inl ⟨by rfl, ?_⟩) hH ?_
        ·intro wq hSw
         try dsimp only at hSw
         go_simp
        try simp only [Act.put, zq1, zq2, zq3, zq4, zq5, zq6]
        refine wR 9 (by kernel_rfl) rfl (fun KK hK => ?_)
        simp only [zq1, zq2, zq3]
        rw [if_pos (by rfl)]
        go_simp
        clear hH
        refine hK.out _ _ ?_ (fun hH => ?_)
        ·have sq := unhide S0; exact ⟨(cw6 (by dsimp only; omega) Ba), (cw6 (by dsimp only; omega) Bb), (cw6 (by dsimp only; omega) Bc), (cw6 (by dsimp only; omega) Bd), (cw6 (by dsimp only; omega) Be), (cw6 (by dsimp only; omega) Bf), (cw6 (by dsimp only; omega) Bg), (cw6 (by dsimp only; omega) Bh), (cw6 (by dsimp only; omega) Bi), (cw6 (by dsimp only; omega) Bj), (cw6 (by dsimp only; omega) Bk), (cw6 (by dsimp only; omega) Bl)⟩
        clear hK KK
        try simp only [Act.put, zq1, zq2, zq3, zq4, zq5, zq6]
        refine wT (i := 10) (v := .bool B1) rfl (Or.inl ⟨by rfl, ?_⟩) hH ?_
        ·intro wq hSw
         try dsimp only at hSw
         go_simp
        try simp only [Act.put, zq1, zq2, zq3, zq4, zq5, zq6]
        refine wpAnyH_done (by kernel_rfl) ?_ _
        clear hH
        go_wp2_with fail
        go_meet
        exact ⟨_, _, _, rfl, rfl, law_setV G0 H0 G0b H0b kw Ck Cl Cm Cn Co Cp r90 r90b (by omega) (by omega) (by omega) (by omega) (by omega)⟩
     ·simp only [zq1, zq2, zq3]
      rw [if_pos (by rfl)]
      go_simp
      have kn := (Kept.refl 0 0 w39).alloc (.cells #[.bool false, .slice none 0 0, .int .i64 0, .bool false, .slice none 0 0, .int .i64 0] 38)
      replace r0 := r0.kp kn
      replace r0b := r0b.kp kn
      replace r1 := r1.kp kn
      replace r1b := r1b.kp kn
      replace rw0 := rw0.kp kn
      replace rw0b := rw0b.kp kn
      replace rm0 := rm0.kp kn
      replace rm0b := rm0b.kp kn
      replace r70 := r70.kp kn
      replace r70b := r70b.kp kn
      replace kw := kw.trans kn
      replace Ba := kn.cell0 Ba
      replace Bb := kn.cell0 Bb
      replace Bc := kn.cell0 Bc
      replace Bd := kn.cell0 Bd
      replace Be := kn.cell0 Be
      replace Bf := kn.cell0 Bf
      replace Bg := kn.cell0 Bg
      replace Bh := kn.cell0 Bh
      replace Bi := kn.cell0 Bi
      replace Bj := kn.cell0 Bj
      replace Bk := kn.cell0 Bk
      replace Bl := kn.cell0 Bl
      replace Bm := kn.cell0 Bm
      replace Bn := kn.cell0 Bn
      replace Bo := kn.cell0 Bo
      replace Bp := kn.cell0 Bp
      replace Bq := kn.cell0 Bq
      replace Br := kn.cell0 Br
      replace Bs := kn.cell0 Bs
      replace Bt := kn.cell0 Bt
      replace Bu := kn.cell0 Bu
      replace Bv := kn.cell0 Bv
      replace Bw := kn.cell0 Bw
      replace Bx := kn.cell0 Bx
      replace By := kn.cell0 By
      replace Bz := kn.cell0 Bz
      replace Ca := kn.cell0 Ca
      replace Cb := kn.cell0 Cb
      replace Cc := kn.cell0 Cc
      replace Cd := kn.cell0 Cd
      replace Ce := kn.cell0 Ce
      replace Cf := kn.cell0 Cf
      replace Cg := kn.cell0 Cg
      replace Ch := kn.cell0 Ch
      replace Ci := kn.cell0 Ci
      replace Cj := kn.cell0 Cj
      replace K := hide ((unhide K).trans kn)
      have z42 := kn.size
      clear kn
      have szx0_ : w39.heap.size < (w39.alloc (.cells #[.bool false, .slice none 0 0, .int .i64 0, .bool false, .slice none 0 0, .int .i64 0] 38)).heap.size := by simp
      have Ck : (w39.alloc (.cells #[.bool false, .slice none 0 0, .int .i64 0, .bool false, .slice none 0 0, .int .i64 0] 38)).cell? ⟨w39.heap.size, 0, none⟩ = some (.bool false) := new_cell2 _ _ _ _ _ _ rfl rfl
      have Cq : (w39.alloc (.cells #[.bool false, .slice none 0 0, .int .i64 0, .bool false, .slice none 0 0, .int .i64 0] 38)).frozen? ⟨w39.heap.size, 0, none⟩ = false := new_loose2 _ _ _ _ _ rfl
      have Cl : (w39.alloc (.cells #[.bool false, .slice none 0 0, .int .i64 0, .bool false, .slice none 0 0, .int .i64 0] 38)).cell? ⟨w39.heap.size, 1, none⟩ = some (.slice none 0 0) := new_cell2 _ _ _ _ _ _ rfl rfl
      have Cr : (w39.alloc (.cells #[.bool false, .slice none 0 0, .int .i64 0, .bool false, .slice none 0 0, .int .i64 0] 38)).frozen? ⟨w39.heap.size, 1, none⟩ = false := new_loose2 _ _ _ _ _ rfl
      have Cm : (w39.alloc (.cells #[.bool false, .slice none 0 0, .int .i64 0, .bool false, .slice none 0 0, .int .i64 0] 38)).cell? ⟨w39.heap.size, 2, none⟩ = some (.int .i64 0) := new_cell2 _ _ _ _ _ _ rfl rfl
      have Cs : (w39.alloc (.cells #[.bool false, .slice none 0 0, .int .i64 0, .bool false, .slice none 0 0, .int .i64 0] 38)).frozen? ⟨w39.heap.size, 2, none⟩ = false := new_loose2 _ _ _ _ _ rfl
      have Cn : (w39.alloc (.cells #[.bool false, .slice none 0 0, .int .i64 0, .bool false, .slice none 0 0, .int .i64 0] 38)).cell? ⟨w39.heap.size, 3, none⟩ = some (.bool false) := new_cell2 _ _ _ _ _ _ rfl rfl
      have Ct : (w39.alloc (.cells #[.bool false, .slice none 0 0, .int .i64 0, .bool false, .slice none 0 0, .int .i64 0] 38)).frozen? ⟨w39.heap.size, 3, none⟩ = false := new_loose2 _ _ _ _ _ rfl
      have Co : (w39.alloc (.cells #[.bool false, .slice none 0 0, .int .i64 0, .bool false, .slice none 0 0, .int .i64 0] 38)).cell? ⟨w39.heap.size, 4, none⟩ = some (.slice none 0 0) := new_cell2 _ _ _ _ _ _ rfl rfl
      have Cu : (w39.alloc (.cells #[.bool false, .slice none 0 0, .int .i64 0, .bool false, .slice none 0 0, .int .i64 0] 38)).frozen? ⟨w39.heap.size, 4, none⟩ = false := new_loose2 _ _ _ _ _ rfl
      have Cp : (w39.alloc (.cells #[.bool false, .slice none 0 0, .int .i64 0, .bool false, .slice none 0 0, .int .i64 0] 38)).cell? ⟨w39.heap.size, 5, none⟩ = some (.int .i64 0) := new_cell2 _ _ _ _ _ _ rfl rfl
      have Cv : (w39.alloc (.cells #[.bool false, .slice none 0 0, .int .i64 0, .bool false, .slice none 0 0, .int .i64 0] 38)).frozen? ⟨w39.heap.size, 5, none⟩ = false := new_loose2 _ _ _ _ _ rfl
      clear hH
      refine hK.out _ _ ?_ (fun hH => ?_)
      ·exact ⟨Ba, Bb, Bc, Bd, Be, Bf, Bg, Bh, Bi, Bj, Bk, Bl⟩
      clear hK KK
      try simp only [Act.put, zq1, zq2, zq3, zq4, zq5, zq6]
      generalize w39.alloc (.cells #[.bool false, .slice none 0 0, .int .i64 0, .bool false, .slice none 0 0, .int .i64 0] 38) = w41 at *
      refine wR 3 (by kernel_rfl) rfl (fun KK hK => ?_)
      ·simp only [zq1, zq2, zq3]
       rw [if_pos (by rfl)]
       refine wps1 6 (.tmp 97) _ rfl in_toV (.agg #[.bool s1, .slice a1 z1.length c1, .int .i64 y1, .bool s1b, .slice a1b z1b.length c1b, .int .i64 y1b]) rfl (toIv_any (s1) (y1) (s1b) (y1b) _ hn1 hn1b r1 r1b) ?_
       rintro e w43 ⟨v71, v71b, mm71, rfl, r71, r71b, hma71, hmb71, k43⟩
       refine ⟨_, rfl, ?_⟩
       revert r0 r0b r1 r1b rw0 rw0b; refine k43.n6 ?_; intro r0 r0b r1 r1b rw0 rw0b
       revert rm0 rm0b r70 r70b; refine k43.n4 ?_; intro rm0 rm0b r70 r70b
       replace kw := kw.trans k43
       replace Cq := k43.loose0 (zbl Ck) Cq
       replace Cr := k43.loose0 (zbl Cl) Cr
       replace Cs := k43.loose0 (zbl Cm) Cs
       replace Ct := k43.loose0 (zbl Cn) Ct
       replace Cu := k43.loose0 (zbl Co) Cu
       replace Cv := k43.loose0 (zbl Cp) Cv
       revert Ba Bb Bc Bd Be Bf Bg Bh Bi Bj Bk Bl; refine k43.m12 ?_; intro Ba Bb Bc Bd Be Bf Bg Bh Bi Bj Bk Bl
       revert Bm Bn Bo Bp Bq Br Bs Bt Bu Bv Bw Bx; refine k43.m12 ?_; intro Bm Bn Bo Bp Bq Br Bs Bt Bu Bv Bw Bx
       revert By Bz Ca Cb Cc Cd Ce Cf Cg Ch Ci Cj; refine k43.m12 ?_; intro By Bz Ca Cb Cc Cd Ce Cf Cg Ch Ci Cj
       revert Ck Cl Cm Cn Co Cp; refine k43.m6 ?_; intro Ck Cl Cm Cn Co Cp
       replace K := hide ((unhide K).trans k43)
       have z44 := k43.size
       clear k43
       clear hH
       refine hK.out _ _ ?_ (fun hH => ?_)
       ·exact ⟨Ba, Bb, Bc, Bd, Be, Bf, Bg, Bh, Bi, Bj, Bk, Bl⟩
       clear hK KK
       try simp only [Act.put, zq1, zq2, zq3, zq4, zq5, zq6]
       refine wR 4 (by kernel_rfl) rfl (fun KK hK => ?_)
       ·simp only [zq1, zq2, zq3]
        rw [if_pos (by rfl)]
        have mk := (ivmul_implD s0 y0 gy0.1 gy0.2 s0b y0b gy0b.1 gy0b.2 s1 y1 gy1.1 gy1.2 s1b y1b gy1b.1 gy1b.2 w43 r70 r70b r71 r71b (T.kept (unhide K))).mono (fun e w' h => IvAns.weak h)
        unfold IvAnsS at mk
        simp only [unhide EB1, unhide EL0, unhide EH0, unhide EG0, unhide EL0b, unhide EH0b, unhide EG0b] at mk
        refine wps2 7 (.tmp 96) (.tmp 98) _ rfl in_impl_IvMul (.agg #[.bool s0, v70, .int .i64 y0, .bool s0b, v70b, .int .i64 y0b]) (.agg #[.bool s1, v71, .int .i64 y1, .bool s1b, v71b, .int .i64 y1b]) rfl rfl mk ?_
        rintro e w45 ⟨v90, v90b, rfl, r90, r90b, k45⟩
        refine ⟨_, rfl, ?_⟩
        clear mk
        revert r0 r0b r1 r1b rw0 rw0b; refine k45.n6 ?_; intro r0 r0b r1 r1b rw0 rw0b
        replace rm0 := rm0.kp k45
        replace rm0b := rm0b.kp k45
        replace r70 := r70.kp k45
        replace r70b := r70b.kp k45
        replace r71 := r71.kp k45
        replace r71b := r71b.kp k45
        replace kw := kw.trans k45
        replace Cq := k45.loose0 (zbl Ck) Cq
        replace Cr := k45.loose0 (zbl Cl) Cr
        replace Cs := k45.loose0 (zbl Cm) Cs
        replace Ct := k45.loose0 (zbl Cn) Ct
        replace Cu := k45.loose0 (zbl Co) Cu
        replace Cv := k45.loose0 (zbl Cp) Cv
        revert Ba Bb Bc Bd Be Bf Bg Bh Bi Bj Bk Bl; refine k45.m12 ?_; intro Ba Bb Bc Bd Be Bf Bg Bh Bi Bj Bk Bl
        revert Bm Bn Bo Bp Bq Br Bs Bt Bu Bv Bw Bx; refine k45.m12 ?_; intro Bm Bn Bo Bp Bq Br Bs Bt Bu Bv Bw Bx
        revert By Bz Ca Cb Cc Cd Ce Cf Cg Ch Ci Cj; refine k45.m12 ?_; intro By Bz Ca Cb Cc Cd Ce Cf Cg Ch Ci Cj
        revert Ck Cl Cm Cn Co Cp; refine k45.m6 ?_; intro Ck Cl Cm Cn Co Cp
        replace K := hide ((unhide K).trans k45)
        have z46 := k45.size
        obtain ⟨a90, d90, hv⟩ := Row.form' r90
        subst hv
        obtain ⟨a90b, d90b, hv⟩ := Row.form' r90b
        subst hv
        clear k45
        clear hH
        refine hK.out _ _ ?_ (fun hH => ?_)
        ·exact ⟨Ba, Bb, Bc, Bd, Be, Bf, Bg, Bh, Bi, Bj, Bk, Bl⟩
        clear hK KK
        try simp only [Act.put, zq1, zq2, zq3, zq4, zq5, zq6]
        refine wT (i := 5) (v := .tuple #[.agg #[.bool G0, .slice a90 L0.length d90, .int .i64 H0, .bool G0b, .slice a90b L0b.length d90b, .int .i64 H0b], .bool B1]) rfl (Or.inl ⟨by rfl, ?_⟩) hH ?_
        ·intro wq hSw
         try dsimp only at hSw
         go_simp
        try simp only [Act.put, zq1, zq2, zq3, zq4, zq5, zq6]
        refine wT (i := 6) (v := .agg #[.bool G0, .slice a90 L0.length d90, .int .i64 H0, .bool G0b, .slice a90b L0b.length d90b, .int .i64 H0b]) rfl (Or.inl ⟨by rfl, ?_⟩) hH ?_
        ·intro wq hSw
         try dsimp only at hSw
         go_simp
        try simp only [Act.put, zq1, zq2, zq3, zq4, zq5, zq6]
        refine wT (i := 7) (v := .bool B1) rfl (Or.inl ⟨by rfl, ?_⟩) hH ?_
        ·intro wq hSw
         try dsimp only at hSw
         go_simp
        try simp only [Act.put, zq1, zq2, zq3, zq4, zq5, zq6]
        refine wR 9 (by kernel_rfl) rfl (fun KK hK => ?_)
        simp only [zq1, zq2, zq3]
        rw [if_pos (by rfl)]
        go_simp
        clear hH
        refine hK.out _ _ ?_ (fun hH => ?_)
        ·have sq := unhide S0; exact ⟨(cw6 (by dsimp only; omega) Ba), (cw6 (by dsimp only; omega) Bb), (cw6 (by dsimp only; omega) Bc), (cw6 (by dsimp only; omega) Bd), (cw6 (by dsimp only; omega) Be), (cw6 (by dsimp only; omega) Bf), (cw6 (by dsimp only; omega) Bg), (cw6 (by dsimp only; omega) Bh), (cw6 (by dsimp only; omega) Bi), (cw6 (by dsimp only; omega) Bj), (cw6 (by dsimp only; omega) Bk), (cw6 (by dsimp only; omega) Bl)⟩
        clear hK KK
        try simp only [Act.put, zq1, zq2, zq3, zq4, zq5, zq6]
        refine wT (i := 10) (v := .bool B1) rfl (Or.inl ⟨by rfl, ?_⟩) hH ?_
        ·intro wq hSw
         try dsimp only at hSw
         go_simp
        try simp only [Act.put, zq1, zq2, zq3, zq4, zq5, zq6]
        refine wpAnyH_done (by kernel_rfl) ?_ _
        clear hH
        go_wp2_with fail
        go_meet
        exact ⟨_, _, _, rfl, rfl, law_setV G0 H0 G0b H0b kw Ck Cl Cm Cn Co Cp r90 r90b (by omega) (by omega) (by omega) (by omega) (by omega)⟩
    ·simp only [zq1, zq2, zq3]
     rw [if_pos (by rfl)]
     go_simp
     have kn := (Kept.refl 0 0 wd).alloc (.cells #[.bool false, .slice none 0 0, .int .i64 0, .bool false, .slice none 0 0, .int .i64 0] 38)
     replace r0 := r0.kp kn
     replace r0b := r0b.kp kn
     replace r1 := r1.kp kn
     replace r1b := r1b.kp kn
     replace rw0 := rw0.kp kn
     replace rw0b := rw0b.kp kn
     replace rm0 := rm0.kp kn
     replace rm0b := rm0b.kp kn
     replace kw := kw.trans kn
     replace Ba := kn.cell0 Ba
     replace Bb := kn.cell0 Bb
     replace Bc := kn.cell0 Bc
     replace Bd := kn.cell0 Bd
     replace Be := kn.cell0 Be
     replace Bf := kn.cell0 Bf
     replace Bg := kn.cell0 Bg
     replace Bh := kn.cell0 Bh
     replace Bi := kn.cell0 Bi
     replace Bj := kn.cell0 Bj
     replace Bk := kn.cell0 Bk
     replace Bl := kn.cell0 Bl
     replace Bm := kn.cell0 Bm
     replace Bn := kn.cell0 Bn
     replace Bo := kn.cell0 Bo
     replace Bp := kn.cell0 Bp
     replace Bq := kn.cell0 Bq
     replace Br := kn.cell0 Br
     replace Bs := kn.cell0 Bs
     replace Bt := kn.cell0 Bt
     replace Bu := kn.cell0 Bu
     replace Bv := kn.cell0 Bv
     replace Bw := kn.cell0 Bw
     replace Bx := kn.cell0 Bx
     replace By := kn.cell0 By
     replace Bz := kn.cell0 Bz
     replace Ca := kn.cell0 Ca
     replace Cb := kn.cell0 Cb
     replace Cc := kn.cell0 Cc
     replace Cd := kn.cell0 Cd
     replace Ce := kn.cell0 Ce
     replace Cf := kn.cell0 Cf
     replace Cg := kn.cell0 Cg
     replace Ch := kn.cell0 Ch
     replace Ci := kn.cell0 Ci
     replace Cj := kn.cell0 Cj
     replace K := hide ((unhide K).trans kn)
     have z40 := kn.size
     clear kn
     have szx0_ : wd.heap.size < (wd.alloc (.cells #[.bool false, .slice none 0 0, .int .i64 0, .bool false, .slice none 0 0, .int .i64 0] 38)).heap.size := by simp
     have Ck : (wd.alloc (.cells #[.bool false, .slice none 0 0, .int .i64 0, .bool false, .slice none 0 0, .int .i64 0] 38)).cell? ⟨wd.heap.size, 0, none⟩ = some (.bool false) := new_cell2 _ _ _ _ _ _ rfl rfl
     have Cq : (wd.alloc (.cells #[.bool false, .slice none 0 0, .int .i64 0, .bool false, .slice none 0 0, .int .i64 0] 38)).frozen? ⟨wd.heap.size, 0, none⟩ = false := new_loose2 _ _ _ _ _ rfl
     have Cl : (wd.alloc (.cells #[.bool false, .slice none 0 0, .int .i64 0, .bool false, .slice none 0 0, .int .i64 0] 38)).cell? ⟨wd.heap.size, 1, none⟩ = some (.slice none 0 0) := new_cell2 _ _ _ _ _ _ rfl rfl
     have Cr : (wd.alloc (.cells #[.bool false, .slice none 0 0, .int .i64 0, .bool false, .slice none 0 0, .int .i64 0] 38)).frozen? ⟨wd.heap.size, 1, none⟩ = false := new_loose2 _ _ _ _ _ rfl
     have Cm : (wd.alloc (.cells #[.bool false, .slice none 0 0, .int .i64 0, .bool false, .slice none 0 0, .int .i64 0] 38)).cell? ⟨wd.heap.size, 2, none⟩ = some (.int .i64 0) := new_cell2 _ _ _ _ _ _ rfl rfl
     have Cs : (wd.alloc (.cells #[.bool false, .slice none 0 0, .int .i64 0, .bool false, .slice none 0 0, .int .i64 0] 38)).frozen? ⟨wd.heap.size, 2, none⟩ = false := new_loose2 _ _ _ _ _ rfl
     have Cn : (wd.alloc (.cells #[.bool false, .slice none 0 0, .int .i64 0, .bool false, .slice none 0 0, .int .i64 0] 38)).cell? ⟨wd.heap.size, 3, none⟩ = some (.bool false) := new_cell2 _ _ _ _ _ _ rfl rfl
     have Ct : (wd.alloc (.cells #[.bool false, .slice none 0 0, .int .i64 0, .bool false, .slice none 0 0, .int .i64 0] 38)).frozen? ⟨wd.heap.size, 3, none⟩ = false := new_loose2 _ _ _ _ _ rfl
     have Co : (wd.alloc (.cells #[.bool false, .slice none 0 0, .int .i64 0, .bool false, .slice none 0 0, .int .i64 0] 38)).cell? ⟨wd.heap.size, 4, none⟩ = some (.slice none 0 0) := new_cell2 _ _ _ _ _ _ rfl rfl
     have Cu : (wd.alloc (.cells #[.bool false, .slice none 0 0, .int .i64 0, .bool false, .slice none 0 0, .int .i64 0] 38)).frozen? ⟨wd.heap.size, 4, none⟩ = false := new_loose2 _ _ _ _ _ rfl
     have Cp : (wd.alloc (.cells #[.bool false, .slice none 0 0, .int .i64 0, .bool false, .slice none 0 0, .int .i64 0] 38)).cell? ⟨wd.heap.size, 5, none⟩ = some (.int .i64 0) := new_cell2 _ _ _ _ _ _ rfl rfl
     have Cv : (wd.alloc (.cells #[.bool false, .slice none 0 0, .int .i64 0, .bool false, .slice none 0 0, .int .i64 0] 38)).frozen? ⟨wd.heap.size, 5, none⟩ = false := new_loose2 _ _ _ _ _ rfl
     clear hH
     refine hK.out _ _ ?_ (fun hH => ?_)
     ·exact ⟨Ba, Bb, Bc, Bd, Be, Bf, Bg, Bh, Bi, Bj, Bk, Bl⟩
     clear hK KK
     try simp only [Act.put, zq1, zq2, zq3, zq4, zq5, zq6]
     generalize wd.alloc (.cells #[.bool false, .slice none 0 0, .int .i64 0, .bool false, .slice none 0 0, .int .i64 0] 38) = w39 at *
     refine wR 1 (by kernel_rfl) rfl (fun KK hK => ?_)
     ·simp only [zq1, zq2, zq3]
      rw [if_pos (by rfl)]
      refine wps1 6 (.tmp 95) _ rfl in_toV (.agg #[.bool s0, .slice a0 z0.length c0, .int .i64 y0, .bool s0b, .slice a0b z0b.length c0b, .int .i64 y0b]) rfl (toIv_any (s0) (y0) (s0b) (y0b) _ hn0 hn0b r0 r0b) ?_
      rintro e w41 ⟨v70, v70b, mm70, rfl, r70, r70b, hma70, hmb70, k41⟩
      refine ⟨_, rfl, ?_⟩
      revert r0 r0b r1 r1b rw0 rw0b; refine k41.n6 ?_; intro r0 r0b r1 r1b rw0 rw0b
      revert rm0 rm0b; refine k41.n2 ?_; intro rm0 rm0b
      replace kw := kw.trans k41
      replace Cq := k41.loose0 (zbl Ck) Cq
      replace Cr := k41.loose0 (zbl Cl) Cr
      replace Cs := k41.loose0 (zbl Cm) Cs
      replace Ct := k41.loose0 (zbl Cn) Ct
      replace Cu := k41.loose0 (zbl Co) Cu
      replace Cv := k41.loose0 (zbl Cp) Cv
      revert Ba Bb Bc Bd Be Bf Bg Bh Bi Bj Bk Bl; refine k41.m12 ?_; intro Ba Bb Bc Bd Be Bf Bg Bh Bi Bj Bk Bl
      revert Bm Bn Bo Bp Bq Br Bs Bt Bu Bv Bw Bx; refine k41.m12 ?_; intro Bm Bn Bo Bp Bq Br Bs Bt Bu Bv Bw Bx
      revert By Bz Ca Cb Cc Cd Ce Cf Cg Ch Ci Cj; refine k41.m12 ?_; intro By Bz Ca Cb Cc Cd Ce Cf Cg Ch Ci Cj
      revert Ck Cl Cm Cn Co Cp; refine k41.m6 ?_; intro Ck Cl Cm Cn Co Cp
      replace K := hide ((unhide K).trans k41)
      have z42 := k41.size
      clear k41
      clear hH
      refine hK.out _ _ ?_ (fun hH => ?_)
      ·exact ⟨Ba, Bb, Bc, Bd, Be, Bf, Bg, Bh, Bi, Bj, Bk, Bl⟩
      clear hK KK
      try simp only [Act.put, zq1, zq2, zq3, zq4, zq5, zq6]
      refine wR 3 (by kernel_rfl) rfl (fun KK hK => ?_)
      ·simp only [zq1, zq2, zq3]
       rw [if_pos (by rfl)]
       refine wps1 6 (.tmp 97) _ rfl in_toV (.agg #[.bool s1, .slice a1 z1.length c1, .int .i64 y1, .bool s1b, .slice a1b z1b.length c1b, .int .i64 y1b]) rfl (toIv_any (s1) (y1) (s1b) (y1b) _ hn1 hn1b r1 r1b) ?_
       rintro e w43 ⟨v71, v71b, mm71, rfl, r71, r71b, hma71, hmb71, k43⟩
       refine ⟨_, rfl, ?_⟩
       revert r0 r0b r1 r1b rw0 rw0b; refine k43.n6 ?_; intro r0 r0b r1 r1b rw0 rw0b
       replace rm0 := rm0.kp k43
       replace rm0b := rm0b.kp k43
       replace r70 := r70.kp k43
       replace r70b := r70b.kp k43
       replace kw := kw.trans k43
       replace Cq := k43.loose0 (zbl Ck) Cq
       replace Cr := k43.loose0 (zbl Cl) Cr
       replace Cs := k43.loose0 (zbl Cm) Cs
       replace Ct := k43.loose0 (zbl Cn) Ct
       replace Cu := k43.loose0 (zbl Co) Cu
       replace Cv := k43.loose0 (zbl Cp) Cv
       revert Ba Bb Bc Bd Be Bf Bg Bh Bi Bj Bk Bl; refine k43.m12 ?_; intro Ba Bb Bc Bd Be Bf Bg Bh Bi Bj Bk Bl
       revert Bm Bn Bo Bp Bq Br Bs Bt Bu Bv Bw Bx; refine k43.m12 ?_; intro Bm Bn Bo Bp Bq Br Bs Bt Bu Bv Bw Bx
       revert By Bz Ca Cb Cc Cd Ce Cf Cg Ch Ci Cj; refine k43.m12 ?_; intro By Bz Ca Cb Cc Cd Ce Cf Cg Ch Ci Cj
       revert Ck Cl Cm Cn Co Cp; refine k43.m6 ?_; intro Ck Cl Cm Cn Co Cp
       replace K := hide ((unhide K).trans k43)
       have z44 := k43.size
       clear k43
       clear hH
       refine hK.out _ _ ?_ (fun hH => ?_)
       ·exact ⟨Ba, Bb, Bc, Bd, Be, Bf, Bg, Bh, Bi, Bj, Bk, Bl⟩
       clear hK KK
       try simp only [Act.put, zq1, zq2, zq3, zq4, zq5, zq6]
       refine wR 4 (by kernel_rfl) rfl (fun KK hK => ?_)
       ·simp only [zq1, zq2, zq3]
        rw [if_pos (by rfl)]
        have mk := (ivmul_implD s0 y0 gy0.1 gy0.2 s0b y0b gy0b.1 gy0b.2 s1 y1 gy1.1 gy1.2 s1b y1b gy1b.1 gy1b.2 w43 r70 r70b r71 r71b (T.kept (unhide K))).mono (fun e w' h => IvAns.weak h)
        unfold IvAnsS at mk
        simp only [unhide EB1, unhide EL0, unhide EH0, unhide EG0, unhide EL0b, unhide EH0b, unhide EG0b] at mk
        refine wps2 7 (.tmp 96) (.tmp 98) _ rfl in_impl_IvMul (.agg #[.bool s0, v70, .int .i64 y0, .bool s0b, v70b, .int .i64 y0b]) (.agg #[.bool s1, v71, .int .i64 y1, .bool s1b, v71b, .int .i64 y1b]) rfl rfl mk ?_
        rintro e w45 ⟨v90, v90b, rfl, r90, r90b, k45⟩
        refine ⟨_, rfl, ?_⟩
        clear mk
        revert r0 r0b r1 r1b rw0 rw0b; refine k45.n6 ?_; intro r0 r0b r1 r1b rw0 rw0b
        replace rm0 := rm0.kp k45
        replace rm0b := rm0b.kp k45
        replace r70 := r70.kp k45
        replace r70b := r70b.kp k45
        replace r71 := r71.kp k45
        replace r71b := r71b.kp k45
        replace kw := kw.trans k45
        replace Cq := k45.loose0 (zbl Ck) Cq
        replace Cr := k45.loose0 (zbl Cl) Cr
        replace Cs := k45.loose0 (zbl Cm) Cs
        replace Ct := k45.loose0 (zbl Cn) Ct
        replace Cu := k45.loose0 (zbl Co) Cu
        replace Cv := k45.loose0 (zbl Cp) Cv
        revert Ba Bb Bc Bd Be Bf Bg Bh Bi Bj Bk Bl; refine k45.m12 ?_; intro Ba Bb Bc Bd Be Bf Bg Bh Bi Bj Bk Bl
        revert Bm Bn Bo Bp Bq Br Bs Bt Bu Bv Bw Bx; refine k45.m12 ?_; intro Bm Bn Bo Bp Bq Br Bs Bt Bu Bv Bw Bx
        revert By Bz Ca Cb Cc Cd Ce Cf Cg Ch Ci Cj; refine k45.m12 ?_; intro By Bz Ca Cb Cc Cd Ce Cf Cg Ch Ci Cj
        revert Ck Cl Cm Cn Co Cp; refine k45.m6 ?_; intro Ck Cl Cm Cn Co Cp
        replace K := hide ((unhide K).trans k45)
        have z46 := k45.size
        obtain ⟨a90, d90, hv⟩ := Row.form' r90
        subst hv
        obtain ⟨a90b, d90b, hv⟩ := Row.form' r90b
        subst hv
        clear k45
        clear hH
        refine hK.out _ _ ?_ (fun hH => ?_)
        ·exact ⟨Ba, Bb, Bc, Bd, Be, Bf, Bg, Bh, Bi, Bj, Bk, Bl⟩
        clear hK KK
        try simp only [Act.put, zq1, zq2, zq3, zq4, zq5, zq6]
        refine wT (i := 5) (v := .tuple #[.agg #[.bool G0, .slice a90 L0.length d90, .int .i64 H0, .bool G0b, .slice a90b L0b.length d90b, .int .i64 H0b], .bool B1]) rfl (Or.inl ⟨by rfl, ?_⟩) hH ?_
        ·intro wq hSw
         try dsimp only at hSw
         go_simp
        try simp only [Act.put, zq1, zq2, zq3, zq4, zq5, zq6]
        refine wT (i := 6) (v := .agg #[.bool G0, .slice a90 L0.length d90, .int .i64 H0, .bool G0b, .slice a90b L0b.length d90b, .int .i64 H0b]) rfl (Or.inl ⟨by rfl, ?_⟩) hH ?_
        ·intro wq hSw
         try dsimp only at hSw
         go_simp
        try simp only [Act.put, zq1, zq2, zq3, zq4, zq5, zq6]
        refine wT (i := 7) (v := .bool B1) rfl (Or.inl ⟨by rfl, ?_⟩) hH ?_
        ·intro wq hSw
         try dsimp only at hSw
         go_simp
        try simp only [Act.put, zq1, zq2, zq3, zq4, zq5, zq6]
        refine wR 9 (by kernel_rfl) rfl (fun KK hK => ?_)
        simp only [zq1, zq2, zq3]
        rw [if_pos (by rfl)]
        go_simp
        clear hH
        refine hK.out _ _ ?_ (fun hH => ?_)
        ·have sq := unhide S0; exact ⟨(cw6 (by dsimp only; omega) Ba), (cw6 (by dsimp only; omega) Bb), (cw6 (by dsimp only; omega) Bc), (cw6 (by dsimp only; omega) Bd), (cw6 (by dsimp only; omega) Be), (cw6 (by dsimp only; omega) Bf), (cw6 (by dsimp only; omega) Bg), (cw6 (by dsimp only; omega) Bh), (cw6 (by dsimp only; omega) Bi), (cw6 (by dsimp only; omega) Bj), (cw6 (by dsimp only; omega) Bk), (cw6 (by dsimp only; omega) Bl)⟩
        clear hK KK
        try simp only [Act.put, zq1, zq2, zq3, zq4, zq5, zq6]
        refine wT (i := 10) (v := .bool B1) rfl (Or.inl ⟨by rfl, ?_⟩) hH ?_
        ·intro wq hSw
         try dsimp only at hSw
         go_simp
        try simp only [Act.put, zq1, zq2, zq3, zq4, zq5, zq6]
        refine wpAnyH_done (by kernel_rfl) ?_ _
        clear hH
        go_wp2_with fail
        go_meet
        exact ⟨_, _, _, rfl, rfl, law_setV G0 H0 G0b H0b kw Ck Cl Cm Cn Co Cp r90 r90b (by omega) (by omega) (by omega) (by omega) (by omega)⟩
   case rest =>
    obtain ⟨Xh0, vh0, vh0b, rfl, rfl, ch0_0, ch0_1, ch0_2, ch0_3, ch0_4, ch0_5, rh0, rh0b, hXh0, hYh0, kk⟩ := hcut
    replace r0 := r0.kp kk
    replace r0b := r0b.kp kk
    replace r1 := r1.kp kk
    replace r1b := r1b.kp kk
    replace rw0 := rw0.kp kk
    replace rw0b := rw0b.kp kk
    replace rm0 := rm0.kp kk
    replace rm0b := rm0b.kp kk
    replace Ba := kk.cell0 Ba
    replace Bb := kk.cell0 Bb
    replace Bc := kk.cell0 Bc
    replace Bd := kk.cell0 Bd
    replace Be := kk.cell0 Be
    replace Bf := kk.cell0 Bf
    replace Bg := kk.cell0 Bg
    replace Bh := kk.cell0 Bh
    replace Bi := kk.cell0 Bi
    replace Bj := kk.cell0 Bj
    replace Bk := kk.cell0 Bk
    replace Bl := kk.cell0 Bl
    replace Bm := kk.cell0 Bm
    replace Bn := kk.cell0 Bn
    replace Bo := kk.cell0 Bo
    replace Bp := kk.cell0 Bp
    replace Bq := kk.cell0 Bq
    replace Br := kk.cell0 Br
    replace Bs := kk.cell0 Bs
    replace Bt := kk.cell0 Bt
    replace Bu := kk.cell0 Bu
    replace Bv := kk.cell0 Bv
    replace Bw := kk.cell0 Bw
    replace Bx := kk.cell0 Bx
    replace By := kk.cell0 By
    replace Bz := kk.cell0 Bz
    replace Ca := kk.cell0 Ca
    replace Cb := kk.cell0 Cb
    replace Cc := kk.cell0 Cc
    replace Cd := kk.cell0 Cd
    replace Ce := kk.cell0 Ce
    replace Cf := kk.cell0 Cf
    replace Cg := kk.cell0 Cg
    replace Ch := kk.cell0 Ch
    replace Ci := kk.cell0 Ci
    replace Cj := kk.cell0 Cj
    replace K := hide ((unhide K).trans kk)
    have z38 := kk.size
    clear kk
    obtain ⟨ah0, dh0, hv⟩ := Row.form' rh0
    subst hv
    obtain ⟨ah0b, dh0b, hv⟩ := Row.form' rh0b
    subst hv
    generalize hwc : wc = we39 at *
    clear hwc
    go_wp2_with fail
    refine (eqIv_same (G0) (H0) (G0b) (H0b) _ rh0 rh0b rw0 rw0b).mono ?_
    rintro e w40 ⟨rfl, k40⟩
    revert r0 r0b r1 r1b rw0 rw0b; refine k40.n6 ?_; intro r0 r0b r1 r1b rw0 rw0b
    replace rm0 := rm0.kp k40
    replace rm0b := rm0b.kp k40
    replace rh0 := rh0.kp k40
    replace rh0b := rh0b.kp k40
    revert Ba Bb Bc Bd Be Bf Bg Bh Bi Bj Bk Bl; refine k40.m12 ?_; intro Ba Bb Bc Bd Be Bf Bg Bh Bi Bj Bk Bl
    revert Bm Bn Bo Bp Bq Br Bs Bt Bu Bv Bw Bx; refine k40.m12 ?_; intro Bm Bn Bo Bp Bq Br Bs Bt Bu Bv Bw Bx
    revert By Bz Ca Cb Cc Cd Ce Cf Cg Ch Ci Cj; refine k40.m12 ?_; intro By Bz Ca Cb Cc Cd Ce Cf Cg Ch Ci Cj
    revert ch0_0 ch0_1 ch0_2 ch0_3 ch0_4 ch0_5; refine k40.m6 ?_; intro ch0_0 ch0_1 ch0_2 ch0_3 ch0_4 ch0_5
    replace K := hide ((unhide K).trans k40)
    have z41 := k40.size
    clear k40
    go_wp2_with fail
    refine (heldIv_any (G0) (H0) (G0b) (H0b) _ (1) (by omega) (by omega) (by omega) hq0 hq0b rm0 rm0b).mono ?_
    rintro e w42 ⟨rfl, k42⟩
    revert r0 r0b r1 r1b rw0 rw0b; refine k42.n6 ?_; intro r0 r0b r1 r1b rw0 rw0b
    revert rm0 rm0b rh0 rh0b; refine k42.n4 ?_; intro rm0 rm0b rh0 rh0b
    revert Ba Bb Bc Bd Be Bf Bg Bh Bi Bj Bk Bl; refine k42.m12 ?_; intro Ba Bb Bc Bd Be Bf Bg Bh Bi Bj Bk Bl
    revert Bm Bn Bo Bp Bq Br Bs Bt Bu Bv Bw Bx; refine k42.m12 ?_; intro Bm Bn Bo Bp Bq Br Bs Bt Bu Bv Bw Bx
    revert By Bz Ca Cb Cc Cd Ce Cf Cg Ch Ci Cj; refine k42.m12 ?_; intro By Bz Ca Cb Cc Cd Ce Cf Cg Ch Ci Cj
    revert ch0_0 ch0_1 ch0_2 ch0_3 ch0_4 ch0_5; refine k42.m6 ?_; intro ch0_0 ch0_1 ch0_2 ch0_3 ch0_4 ch0_5
    replace K := hide ((unhide K).trans k42)
    have z43 := k42.size
    clear k42
    have nq043 : ¬ (1 + ((L0.length : Int) + (L0b.length : Int))) < 0 := by omega
    go_wp2_with fail
    go_ret
    exact ⟨rfl, (unhide K).toBelow⟩

end Go.Proofs.YtpognolidbgkkaaDoor

