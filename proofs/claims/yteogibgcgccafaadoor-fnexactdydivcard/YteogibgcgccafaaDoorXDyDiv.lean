/-
  The walk of the law FnExactDyDiv: it returns true at every argument.
-/
import Derived.Test.YteogibgcgccafaaDoorDyD3
import Derived.Test.YteogibgcgccafaaDoorBJ
import Derived.Deep.DeepCutAuto
namespace Go.Proofs.YteogibgcgccafaaDoor
open Go.RowKit
set_option linter.unusedVariables false
set_option maxRecDepth 8000
set_option linter.unusedSimpArgs false

theorem wf_DyDiv {n : Int} (h : (Lit.int .i64 n).wf = true) : n ≤ 9223372036854775807 ∧ -9223372036854775808 ≤ n := by
  have e : (Lit.int .i64 n).wf = (decide (IntKind.i64.min ≤ n) && decide (n ≤ IntKind.i64.max)) := rfl
  rw [e, show IntKind.i64.min = -9223372036854775808 by decide, show IntKind.i64.max = 9223372036854775807 by decide] at h
  simp at h
  omega

set_option maxHeartbeats 16000000 in
theorem law_DyDiv {u0 : Value} {z0 : List Int} {u1 : Value} {z1 : List Int} {w : World} (s0 : Bool) (y0 : Int) (r0 : Row .i64 false 0 w.heap.size w u0 z0) (fy0 : (Lit.int .i64 y0).wf = true) (s1 : Bool) (y1 : Int) (r1 : Row .i64 false 0 w.heap.size w u1 z1) (fy1 : (Lit.int .i64 y1).wf = true) (p2 : Int) (f2 : (Lit.int .i64 p2).wf = true) (p3 : Int) (f3 : (Lit.int .i64 p3).wf = true) (T : TabB w) :
    Calls Tryd.prog 3 #[.agg #[.bool s0, u0, .int .i64 y0], .agg #[.bool s1, u1, .int .i64 y1], .int .i64 p2, .int .i64 p3] w fun e w' => e = .returned (.bool true) ∧ Below w.heap.size w w' := by
  have gy0 : y0 ≤ 9223372036854775807 ∧ -9223372036854775808 ≤ y0 := wf_DyDiv fy0
  clear fy0
  have gy1 : y1 ≤ 9223372036854775807 ∧ -9223372036854775808 ≤ y1 := wf_DyDiv fy1
  clear fy1
  have g2 : p2 ≤ 9223372036854775807 ∧ -9223372036854775808 ≤ p2 := wf_DyDiv f2
  clear f2
  have g3 : p3 ≤ 9223372036854775807 ∧ -9223372036854775808 ≤ p3 := wf_DyDiv f3
  clear f3
  obtain ⟨B1, hB1⟩ : ∃ B, ansDB ((dokB s0 z0 y0 && dokB s1 z1 y1) && (!decide (z1.length = 0) && mayR p2 p3)) (divM p3.toNat (s0 != s1) (val z0).toNat (val z1).toNat (y0 - y1 - (p2 - 1))) (p2) = B := ⟨_, rfl⟩
  obtain ⟨L0, hL0⟩ : ∃ L, ansDL ((dokB s0 z0 y0 && dokB s1 z1 y1) && (!decide (z1.length = 0) && mayR p2 p3)) (divM p3.toNat (s0 != s1) (val z0).toNat (val z1).toNat (y0 - y1 - (p2 - 1))) (p2) = L := ⟨_, rfl⟩
  obtain ⟨H0, hH0⟩ : ∃ H, ansDE ((dokB s0 z0 y0 && dokB s1 z1 y1) && (!decide (z1.length = 0) && mayR p2 p3)) (divM p3.toNat (s0 != s1) (val z0).toNat (val z1).toNat (y0 - y1 - (p2 - 1))) (p2) = H := ⟨_, rfl⟩
  obtain ⟨G0, hG0⟩ : ∃ G, ansDS ((dokB s0 z0 y0 && dokB s1 z1 y1) && (!decide (z1.length = 0) && mayR p2 p3)) (divM p3.toNat (s0 != s1) (val z0).toNat (val z1).toNat (y0 - y1 - (p2 - 1))) (p2) = G := ⟨_, rfl⟩
  have hn'0 : L0.length ≤ 100 := by rw [← hL0]; exact ansDL_len _ _ _
  have hq0 : L0.length ≤ 1099511627776 := by omega
  have hm0 := r0.len
  unfold maxLen at hm0
  have hm1 := r1.len
  unfold maxLen at hm1
  obtain ⟨Wn, hn0⟩ : ∃ wz, wz = ((w.alloc (.cells #[.bool s0, u0, .int .i64 y0] 28)).alloc (.cells #[.bool s1, u1, .int .i64 y1] 28)) := ⟨_, rfl⟩
  have k0 : Kept 0 0 w Wn := by rw [hn0]; exact (((Kept.refl 0 0 w).alloc _).alloc _)
  have A0_0 : Wn.cell? ⟨w.heap.size, 0, none⟩ = some (.bool s0) := by rw [hn0]; exact old_cell _ (new_cell2 _ _ _ _ _ _ (by simp) rfl)
  have A0_1 : Wn.cell? ⟨w.heap.size, 1, none⟩ = some (u0) := by rw [hn0]; exact old_cell _ (new_cell2 _ _ _ _ _ _ (by simp) rfl)
  have A0_2 : Wn.cell? ⟨w.heap.size, 2, none⟩ = some (.int .i64 y0) := by rw [hn0]; exact old_cell _ (new_cell2 _ _ _ _ _ _ (by simp) rfl)
  have A1_0 : Wn.cell? ⟨w.heap.size + 1, 0, none⟩ = some (.bool s1) := by rw [hn0]; exact new_cell2 _ _ _ _ _ _ (by simp) rfl
  have A1_1 : Wn.cell? ⟨w.heap.size + 1, 1, none⟩ = some (u1) := by rw [hn0]; exact new_cell2 _ _ _ _ _ _ (by simp) rfl
  have A1_2 : Wn.cell? ⟨w.heap.size + 1, 2, none⟩ = some (.int .i64 y1) := by rw [hn0]; exact new_cell2 _ _ _ _ _ _ (by simp) rfl
  subst hn0
  replace r0 := r0.kept k0 (by omega)
  replace r1 := r1.kept k0 (by omega)
  have s0 : ((w.alloc (.cells #[.bool s0, u0, .int .i64 y0] 28)).alloc (.cells #[.bool s1, u1, .int .i64 y1] 28)).heap.size = w.heap.size + 2 := by simp
  obtain ⟨a0, c0, hv⟩ := Row.form' r0
  subst hv
  obtain ⟨a1, c1, hv⟩ := Row.form' r1
  subst hv
  have K := hide (k0)
  clear k0
  have S0 := hide s0
  clear s0
  have EB1 := hide hB1
  have EL0 := hide hL0
  have EH0 := hide hH0
  have EG0 := hide hG0
  clear hB1 hL0 hH0 hG0
  go_enter Tryd.func3, Tryd.ntmps3
  skip
  go_wp2_with fail
  generalize ((w.alloc (.cells #[.bool s0, .slice a0 z0.length c0, .int .i64 y0] 28)).alloc (.cells #[.bool s1, .slice a1 z1.length c1, .int .i64 y1] 28)) = W at *
  refine (szDy_any (s0) (y0) _ (1048576) (by omega) (by omega) r0).mono ?_
  rintro e w1 ⟨rfl, k1⟩
  replace r0 := r0.kp k1
  replace r1 := r1.kp k1
  replace A0_0 := k1.cell0 A0_0
  replace A0_1 := k1.cell0 A0_1
  replace A0_2 := k1.cell0 A0_2
  replace A1_0 := k1.cell0 A1_0
  replace A1_1 := k1.cell0 A1_1
  replace A1_2 := k1.cell0 A1_2
  replace K := hide ((unhide K).trans k1)
  have z2 := k1.size
  clear k1
  by_cases big0 : (z0.length : Int) ≤ 1048576
  rotate_left
  ·rw [if_neg big0]
   go_wp2_with fail
   go_ret
   exact ⟨rfl, (unhide K).toBelow⟩
  rw [if_pos big0]
  have nb0 : ¬ (1048576 - (z0.length : Int)) < 0 := by omega
  go_wp2_with fail
  refine (szDy_any (s1) (y1) _ ((1048576 - (z0.length : Int))) (by omega) (by omega) r1).mono ?_
  rintro e w3 ⟨rfl, k3⟩
  replace r0 := r0.kp k3
  replace r1 := r1.kp k3
  replace A0_0 := k3.cell0 A0_0
  replace A0_1 := k3.cell0 A0_1
  replace A0_2 := k3.cell0 A0_2
  replace A1_0 := k3.cell0 A1_0
  replace A1_1 := k3.cell0 A1_1
  replace A1_2 := k3.cell0 A1_2
  replace K := hide ((unhide K).trans k3)
  have z4 := k3.size
  clear k3
  by_cases big1 : (z1.length : Int) ≤ (1048576 - (z0.length : Int))
  rotate_left
  ·rw [if_neg big1]
   go_wp2_with fail
   go_ret
   exact ⟨rfl, (unhide K).toBelow⟩
  rw [if_pos big1]
  have nb1 : ¬ ((1048576 - (z0.length : Int)) - (z1.length : Int)) < 0 := by omega
  have hn0 : z0.length ≤ 1099511627776 := by omega
  have hn1 : z1.length ≤ 1099511627776 := by omega
  go_upto_region 8 with fail
  go_cut [10, 11] (fun q0 q1 wx => ∃ X0 v0, q0 = .pointer (some ⟨X0, 0, none⟩) ∧ q1 = .bool B1 ∧ wx.cell? ⟨X0, 0, none⟩ = some (.bool G0) ∧ wx.cell? ⟨X0, 1, none⟩ = some (v0) ∧ wx.cell? ⟨X0, 2, none⟩ = some (.int .i64 H0) ∧ Row .i64 true w3.heap.size wx.heap.size wx v0 L0 ∧ w3.heap.size ≤ X0 ∧ X0 < wx.heap.size ∧ Kept 0 0 w3 wx)
  case first =>
   have kw := Kept.refl 0 0 w3
   have kd := (Kept.refl 0 0 w3).drew
   replace r0 := r0.kp kd
   replace r1 := r1.kp kd
   replace kw := kw.trans kd
   replace A0_0 := kd.cell0 A0_0
   replace A0_1 := kd.cell0 A0_1
   replace A0_2 := kd.cell0 A0_2
   replace A1_0 := kd.cell0 A1_0
   replace A1_1 := kd.cell0 A1_1
   replace A1_2 := kd.cell0 A1_2
   replace K := hide ((unhide K).trans kd)
   have z5 := kd.size
   clear kd
   refine wp_region_held_drew (S := (fun w' => w'.cell? ⟨w.heap.size, 0, none⟩ = some (.bool s0) ∧ w'.cell? ⟨w.heap.size, 1, none⟩ = some (.slice a0 z0.length c0) ∧ w'.cell? ⟨w.heap.size, 2, none⟩ = some (.int .i64 y0) ∧ w'.cell? ⟨w.heap.size + 1, 0, none⟩ = some (.bool s1) ∧ w'.cell? ⟨w.heap.size + 1, 1, none⟩ = some (.slice a1 z1.length c1) ∧ w'.cell? ⟨w.heap.size + 1, 2, none⟩ = some (.int .i64 y1))) (by kernel_rfl) ?_ (fun hH => ?_)
   ·exact ⟨A0_0, A0_1, A0_2, A1_0, A1_1, A1_2⟩
   generalize w3.drew = wd at *
   refine wpAnyH_take (i := 0) (v := .agg #[.bool s0, .slice a0 z0.length c0, .int .i64 y0]) rfl (by kernel_rfl) (by kernel_rfl) (by kernel_rfl) (fun _ _ _ h => h) (Or.inl ⟨by rfl, ?_⟩) hH ?_
   ·intro wq hSw
    try dsimp only at hSw
    go_simp
   try simp only [Act.put, zq1, zq2, zq3, zq4, zq5, zq6]
   refine wpAnyH_take (i := 2) (v := .agg #[.bool s1, .slice a1 z1.length c1, .int .i64 y1]) rfl (by kernel_rfl) (by kernel_rfl) (by kernel_rfl) (fun _ _ _ h => h) (Or.inl ⟨by rfl, ?_⟩) hH ?_
   ·intro wq hSw
    try dsimp only at hSw
    go_simp
   try simp only [Act.put, zq1, zq2, zq3, zq4, zq5, zq6]
   refine wpAnyH_take (i := 4) (v := .int .i64 p2) rfl (by kernel_rfl) (by kernel_rfl) (by kernel_rfl) (fun _ _ _ h => h) (Or.inl ⟨by rfl, ?_⟩) hH ?_
   ·intro wq hSw
    try dsimp only at hSw
    go_simp
   try simp only [Act.put, zq1, zq2, zq3, zq4, zq5, zq6]
   refine wpAnyH_take (i := 5) (v := .int .i64 p3) rfl (by kernel_rfl) (by kernel_rfl) (by kernel_rfl) (fun _ _ _ h => h) (Or.inl ⟨by rfl, ?_⟩) hH ?_
   ·intro wq hSw
    try dsimp only at hSw
    go_simp
   try simp only [Act.put, zq1, zq2, zq3, zq4, zq5, zq6]
   refine wpAnyH_ready (rs := [1, 10]) (by kernel_rfl) (by simp) ?_
   refine AllReadyH.cons rfl (fun KK hK => ?_) (AllReadyH.cons rfl (fun KK hK => ?_) AllReadyH.nil)
   ·simp only [zq1, zq2, zq3]
    rw [if_pos (by rfl)]
    refine wps1 6 (.tmp 32) _ rfl in_toD (.agg #[.bool s0, .slice a0 z0.length c0, .int .i64 y0]) rfl (toDy_any (s0) (y0) _ hn0 r0) ?_
    rintro e w6 ⟨v70, rfl, r70, k6⟩
    refine ⟨_, rfl, ?_⟩
    replace r0 := r0.kp k6
    replace r1 := r1.kp k6
    replace kw := kw.trans k6
    replace A0_0 := k6.cell0 A0_0
    replace A0_1 := k6.cell0 A0_1
    replace A0_2 := k6.cell0 A0_2
    replace A1_0 := k6.cell0 A1_0
    replace A1_1 := k6.cell0 A1_1
    replace A1_2 := k6.cell0 A1_2
    replace K := hide ((unhide K).trans k6)
    have z7 := k6.size
    clear k6
    clear hH
    refine hK.out _ _ ?_ (fun hH => ?_)
    ·exact ⟨A0_0, A0_1, A0_2, A1_0, A1_1, A1_2⟩
    clear hK KK
    try simp only [Act.put, zq1, zq2, zq3, zq4, zq5, zq6]
    refine wpAnyH_ready (rs := [3, 10]) (by kernel_rfl) (by simp) ?_
    refine AllReadyH.cons rfl (fun KK hK => ?_) (AllReadyH.cons rfl (fun KK hK => ?_) AllReadyH.nil)
    ·simp only [zq1, zq2, zq3]
     rw [if_pos (by rfl)]
     refine wps1 6 (.tmp 34) _ rfl in_toD (.agg #[.bool s1, .slice a1 z1.length c1, .int .i64 y1]) rfl (toDy_any (s1) (y1) _ hn1 r1) ?_
     rintro e w8 ⟨v71, rfl, r71, k8⟩
     refine ⟨_, rfl, ?_⟩
     replace r0 := r0.kp k8
     replace r1 := r1.kp k8
     replace r70 := r70.kp k8
     replace kw := kw.trans k8
     replace A0_0 := k8.cell0 A0_0
     replace A0_1 := k8.cell0 A0_1
     replace A0_2 := k8.cell0 A0_2
     replace A1_0 := k8.cell0 A1_0
     replace A1_1 := k8.cell0 A1_1
     replace A1_2 := k8.cell0 A1_2
     replace K := hide ((unhide K).trans k8)
     have z9 := k8.size
     clear k8
     clear hH
     refine hK.out _ _ ?_ (fun hH => ?_)
     ·exact ⟨A0_0, A0_1, A0_2, A1_0, A1_1, A1_2⟩
     clear hK KK
     try simp only [Act.put, zq1, zq2, zq3, zq4, zq5, zq6]
     refine wpAnyH_ready (rs := [6, 10]) (by kernel_rfl) (by simp) ?_
     refine AllReadyH.cons rfl (fun KK hK => ?_) (AllReadyH.cons rfl (fun KK hK => ?_) AllReadyH.nil)
     ·simp only [zq1, zq2, zq3]
      rw [if_pos (by rfl)]
      have mk := ddiv_spec s0 s1 y0 y1 gy0.1 gy0.2 gy1.1 gy1.2 p2 p3 w8 r70 r71
      simp only [unhide EB1, unhide EL0, unhide EH0, unhide EG0] at mk
      refine wps4 5 (.tmp 33) (.tmp 35) (.tmp 36) (.tmp 37) _ rfl in_spec_DyDiv (.agg #[.bool s0, v70, .int .i64 y0]) (.agg #[.bool s1, v71, .int .i64 y1]) (.int .i64 p2) (.int .i64 p3) rfl rfl rfl rfl mk ?_
      rintro e w10 ⟨v90, rfl, r90, k10⟩
      refine ⟨_, rfl, ?_⟩
      clear mk
      replace r0 := r0.kp k10
      replace r1 := r1.kp k10
      replace r70 := r70.kp k10
      replace r71 := r71.kp k10
      replace kw := kw.trans k10
      replace A0_0 := k10.cell0 A0_0
      replace A0_1 := k10.cell0 A0_1
      replace A0_2 := k10.cell0 A0_2
      replace A1_0 := k10.cell0 A1_0
      replace A1_1 := k10.cell0 A1_1
      replace A1_2 := k10.cell0 A1_2
      replace K := hide ((unhide K).trans k10)
      have z11 := k10.size
      obtain ⟨a90, d90, hv⟩ := Row.form' r90
      subst hv
      clear k10
      clear hH
      refine hK.out _ _ ?_ (fun hH => ?_)
      ·exact ⟨A0_0, A0_1, A0_2, A1_0, A1_1, A1_2⟩
      clear hK KK
      try simp only [Act.put, zq1, zq2, zq3, zq4, zq5, zq6]
      refine wpAnyH_take (i := 7) (v := .tuple #[.agg #[.bool G0, .slice a90 L0.length d90, .int .i64 H0], .bool B1]) rfl (by kernel_rfl) (by kernel_rfl) (by kernel_rfl) (fun _ _ _ h => h) (Or.inl ⟨by rfl, ?_⟩) hH ?_
      ·intro wq hSw
       try dsimp only at hSw
       go_simp
      try simp only [Act.put, zq1, zq2, zq3, zq4, zq5, zq6]
      refine wpAnyH_take (i := 8) (v := .agg #[.bool G0, .slice a90 L0.length d90, .int .i64 H0]) rfl (by kernel_rfl) (by kernel_rfl) (by kernel_rfl) (fun _ _ _ h => h) (Or.inl ⟨by rfl, ?_⟩) hH ?_
      ·intro wq hSw
       try dsimp only at hSw
       go_simp
      try simp only [Act.put, zq1, zq2, zq3, zq4, zq5, zq6]
      refine wpAnyH_take (i := 9) (v := .bool B1) rfl (by kernel_rfl) (by kernel_rfl) (by kernel_rfl) (fun _ _ _ h => h) (Or.inl ⟨by rfl, ?_⟩) hH ?_
      ·intro wq hSw
       try dsimp only at hSw
       go_simp
      try simp only [Act.put, zq1, zq2, zq3, zq4, zq5, zq6]
      refine wpAnyH_ready (rs := [10]) (by kernel_rfl) (by simp) ?_
      refine AllReadyH.cons rfl (fun KK hK => ?_) AllReadyH.nil
      ·simp only [zq1, zq2, zq3]
       rw [if_pos (by rfl)]
       go_simp
       have kn := (Kept.refl 0 0 w10).alloc (.cells #[.bool false, .slice none 0 0, .int .i64 0] 34)
       replace r0 := r0.kp kn
       replace r1 := r1.kp kn
       replace r70 := r70.kp kn
       replace r71 := r71.kp kn
       replace r90 := r90.kp kn
       replace kw := kw.trans kn
       replace A0_0 := kn.cell0 A0_0
       replace A0_1 := kn.cell0 A0_1
       replace A0_2 := kn.cell0 A0_2
       replace A1_0 := kn.cell0 A1_0
       replace A1_1 := kn.cell0 A1_1
       replace A1_2 := kn.cell0 A1_2
       replace K := hide ((unhide K).trans kn)
       have z13 := kn.size
       clear kn
       have szx0_ : w10.heap.size < (w10.alloc (.cells #[.bool false, .slice none 0 0, .int .i64 0] 34)).heap.size := by simp
       have x0_0 : (w10.alloc (.cells #[.bool false, .slice none 0 0, .int .i64 0] 34)).cell? ⟨w10.heap.size, 0, none⟩ = some (.bool false) := new_cell2 _ _ _ _ _ _ rfl rfl
       have x0_f0 : (w10.alloc (.cells #[.bool false, .slice none 0 0, .int .i64 0] 34)).frozen? ⟨w10.heap.size, 0, none⟩ = false := new_loose2 _ _ _ _ _ rfl
       have x0_1 : (w10.alloc (.cells #[.bool false, .slice none 0 0, .int .i64 0] 34)).cell? ⟨w10.heap.size, 1, none⟩ = some (.slice none 0 0) := new_cell2 _ _ _ _ _ _ rfl rfl
       have x0_f1 : (w10.alloc (.cells #[.bool false, .slice none 0 0, .int .i64 0] 34)).frozen? ⟨w10.heap.size, 1, none⟩ = false := new_loose2 _ _ _ _ _ rfl
       have x0_2 : (w10.alloc (.cells #[.bool false, .slice none 0 0, .int .i64 0] 34)).cell? ⟨w10.heap.size, 2, none⟩ = some (.int .i64 0) := new_cell2 _ _ _ _ _ _ rfl rfl
       have x0_f2 : (w10.alloc (.cells #[.bool false, .slice none 0 0, .int .i64 0] 34)).frozen? ⟨w10.heap.size, 2, none⟩ = false := new_loose2 _ _ _ _ _ rfl
       clear hH
       refine hK.out _ _ ?_ (fun hH => ?_)
       ·exact ⟨A0_0, A0_1, A0_2, A1_0, A1_1, A1_2⟩
       clear hK KK
       try simp only [Act.put, zq1, zq2, zq3, zq4, zq5, zq6]
       generalize w10.alloc (.cells #[.bool false, .slice none 0 0, .int .i64 0] 34) = w12 at *
       refine wpAnyH_ready (rs := [11]) (by kernel_rfl) (by simp) ?_
       refine AllReadyH.cons rfl (fun KK hK => ?_) AllReadyH.nil
       simp only [zq1, zq2, zq3]
       rw [if_pos (by rfl)]
       go_simp
       clear hH
       refine hK.out _ _ ?_ (fun hH => ?_)
       ·exact ⟨(cw3 (by have := unhide S0; dsimp only; omega) A0_0), (cw3 (by have := unhide S0; dsimp only; omega) A0_1), (cw3 (by have := unhide S0; dsimp only; omega) A0_2), (cw3 (by have := unhide S0; dsimp only; omega) A1_0), (cw3 (by have := unhide S0; dsimp only; omega) A1_1), (cw3 (by have := unhide S0; dsimp only; omega) A1_2)⟩
       clear hK KK
       try simp only [Act.put, zq1, zq2, zq3, zq4, zq5, zq6]
       refine wpAnyH_take (i := 12) (v := .bool B1) rfl (by kernel_rfl) (by kernel_rfl) (by kernel_rfl) (fun _ _ _ h => h) (Or.inl ⟨by rfl, ?_⟩) hH ?_
       ·intro wq hSw
        try dsimp only at hSw
        go_simp
       try simp only [Act.put, zq1, zq2, zq3, zq4, zq5, zq6]
       refine wpAnyH_done (by kernel_rfl) ?_ _
       clear hH
       go_wp2_with fail
       go_meet
       exact ⟨_, _, rfl, rfl, law_setD G0 H0 kw x0_0 x0_1 x0_2 r90 (by omega) (by omega) (by omega)⟩
     ·simp only [zq1, zq2, zq3]
      rw [if_pos (by rfl)]
      go_simp
      have kn := (Kept.refl 0 0 w8).alloc (.cells #[.bool false, .slice none 0 0, .int .i64 0] 34)
      replace r0 := r0.kp kn
      replace r1 := r1.kp kn
      replace r70 := r70.kp kn
      replace r71 := r71.kp kn
      replace kw := kw.trans kn
      replace A0_0 := kn.cell0 A0_0
      replace A0_1 := kn.cell0 A0_1
      replace A0_2 := kn.cell0 A0_2
      replace A1_0 := kn.cell0 A1_0
      replace A1_1 := kn.cell0 A1_1
      replace A1_2 := kn.cell0 A1_2
      replace K := hide ((unhide K).trans kn)
      have z11 := kn.size
      clear kn
      have szx0_ : w8.heap.size < (w8.alloc (.cells #[.bool false, .slice none 0 0, .int .i64 0] 34)).heap.size := by simp
      have x0_0 : (w8.alloc (.cells #[.bool false, .slice none 0 0, .int .i64 0] 34)).cell? ⟨w8.heap.size, 0, none⟩ = some (.bool false) := new_cell2 _ _ _ _ _ _ rfl rfl
      have x0_f0 : (w8.alloc (.cells #[.bool false, .slice none 0 0, .int .i64 0] 34)).frozen? ⟨w8.heap.size, 0, none⟩ = false := new_loose2 _ _ _ _ _ rfl
      have x0_1 : (w8.alloc (.cells #[.bool false, .slice none 0 0, .int .i64 0] 34)).cell? ⟨w8.heap.size, 1, none⟩ = some (.slice none 0 0) := new_cell2 _ _ _ _ _ _ rfl rfl
      have x0_f1 : (w8.alloc (.cells #[.bool false, .slice none 0 0, .int .i64 0] 34)).frozen? ⟨w8.heap.size, 1, none⟩ = false := new_loose2 _ _ _ _ _ rfl
      have x0_2 : (w8.alloc (.cells #[.bool false, .slice none 0 0, .int .i64 0] 34)).cell? ⟨w8.heap.size, 2, none⟩ = some (.int .i64 0) := new_cell2 _ _ _ _ _ _ rfl rfl
      have x0_f2 : (w8.alloc (.cells #[.bool false, .slice none 0 0, .int .i64 0] 34)).frozen? ⟨w8.heap.size, 2, none⟩ = false := new_loose2 _ _ _ _ _ rfl
      clear hH
      refine hK.out _ _ ?_ (fun hH => ?_)
      ·exact ⟨A0_0, A0_1, A0_2, A1_0, A1_1, A1_2⟩
      clear hK KK
      try simp only [Act.put, zq1, zq2, zq3, zq4, zq5, zq6]
      generalize w8.alloc (.cells #[.bool false, .slice none 0 0, .int .i64 0] 34) = w10 at *
      refine wpAnyH_ready (rs := [6]) (by kernel_rfl) (by simp) ?_
      refine AllReadyH.cons rfl (fun KK hK => ?_) AllReadyH.nil
      ·simp only [zq1, zq2, zq3]
       rw [if_pos (by rfl)]
       have mk := ddiv_spec s0 s1 y0 y1 gy0.1 gy0.2 gy1.1 gy1.2 p2 p3 w10 r70 r71
       simp only [unhide EB1, unhide EL0, unhide EH0, unhide EG0] at mk
       refine wps4 5 (.tmp 33) (.tmp 35) (.tmp 36) (.tmp 37) _ rfl in_spec_DyDiv (.agg #[.bool s0, v70, .int .i64 y0]) (.agg #[.bool s1, v71, .int .i64 y1]) (.int .i64 p2) (.int .i64 p3) rfl rfl rfl rfl mk ?_
       rintro e w12 ⟨v90, rfl, r90, k12⟩
       refine ⟨_, rfl, ?_⟩
       clear mk
       replace r0 := r0.kp k12
       replace r1 := r1.kp k12
       replace r70 := r70.kp k12
       replace r71 := r71.kp k12
       replace kw := kw.trans k12
       replace x0_f0 := k12.loose0 (zbl x0_0) x0_f0
       replace x0_f1 := k12.loose0 (zbl x0_1) x0_f1
       replace x0_f2 := k12.loose0 (zbl x0_2) x0_f2
       replace A0_0 := k12.cell0 A0_0
       replace A0_1 := k12.cell0 A0_1
       replace A0_2 := k12.cell0 A0_2
       replace A1_0 := k12.cell0 A1_0
       replace A1_1 := k12.cell0 A1_1
       replace A1_2 := k12.cell0 A1_2
       replace x0_0 := k12.cell0 x0_0
       replace x0_1 := k12.cell0 x0_1
       replace x0_2 := k12.cell0 x0_2
       replace K := hide ((unhide K).trans k12)
       have z13 := k12.size
       obtain ⟨a90, d90, hv⟩ := Row.form' r90
       subst hv
       clear k12
       clear hH
       refine hK.out _ _ ?_ (fun hH => ?_)
       ·exact ⟨A0_0, A0_1, A0_2, A1_0, A1_1, A1_2⟩
       clear hK KK
       try simp only [Act.put, zq1, zq2, zq3, zq4, zq5, zq6]
       refine wpAnyH_take (i := 7) (v := .tuple #[.agg #[.bool G0, .slice a90 L0.length d90, .int .i64 H0], .bool B1]) rfl (by kernel_rfl) (by kernel_rfl) (by kernel_rfl) (fun _ _ _ h => h) (Or.inl ⟨by rfl, ?_⟩) hH ?_
       ·intro wq hSw
        try dsimp only at hSw
        go_simp
       try simp only [Act.put, zq1, zq2, zq3, zq4, zq5, zq6]
       refine wpAnyH_take (i := 8) (v := .agg #[.bool G0, .slice a90 L0.length d90, .int .i64 H0]) rfl (by kernel_rfl) (by kernel_rfl) (by kernel_rfl) (fun _ _ _ h => h) (Or.inl ⟨by rfl, ?_⟩) hH ?_
       ·intro wq hSw
        try dsimp only at hSw
        go_simp
       try simp only [Act.put, zq1, zq2, zq3, zq4, zq5, zq6]
       refine wpAnyH_take (i := 9) (v := .bool B1) rfl (by kernel_rfl) (by kernel_rfl) (by kernel_rfl) (fun _ _ _ h => h) (Or.inl ⟨by rfl, ?_⟩) hH ?_
       ·intro wq hSw
        try dsimp only at hSw
        go_simp
       try simp only [Act.put, zq1, zq2, zq3, zq4, zq5, zq6]
       refine wpAnyH_ready (rs := [11]) (by kernel_rfl) (by simp) ?_
       refine AllReadyH.cons rfl (fun KK hK => ?_) AllReadyH.nil
       simp only [zq1, zq2, zq3]
       rw [if_pos (by rfl)]
       go_simp
       clear hH
       refine hK.out _ _ ?_ (fun hH => ?_)
       ·exact ⟨(cw3 (by have := unhide S0; dsimp only; omega) A0_0), (cw3 (by have := unhide S0; dsimp only; omega) A0_1), (cw3 (by have := unhide S0; dsimp only; omega) A0_2), (cw3 (by have := unhide S0; dsimp only; omega) A1_0), (cw3 (by have := unhide S0; dsimp only; omega) A1_1), (cw3 (by have := unhide S0; dsimp only; omega) A1_2)⟩
       clear hK KK
       try simp only [Act.put, zq1, zq2, zq3, zq4, zq5, zq6]
       refine wpAnyH_take (i := 12) (v := .bool B1) rfl (by kernel_rfl) (by kernel_rfl) (by kernel_rfl) (fun _ _ _ h => h) (Or.inl ⟨by rfl, ?_⟩) hH ?_
       ·intro wq hSw
        try dsimp only at hSw
        go_simp
       try simp only [Act.put, zq1, zq2, zq3, zq4, zq5, zq6]
       refine wpAnyH_done (by kernel_rfl) ?_ _
       clear hH
       go_wp2_with fail
       go_meet
       exact ⟨_, _, rfl, rfl, law_setD G0 H0 kw x0_0 x0_1 x0_2 r90 (by omega) (by omega) (by omega)⟩
    ·simp only [zq1, zq2, zq3]
     rw [if_pos (by rfl)]
     go_simp
     have kn := (Kept.refl 0 0 w6).alloc (.cells #[.bool false, .slice none 0 0, .int .i64 0] 34)
     replace r0 := r0.kp kn
     replace r1 := r1.kp kn
     replace r70 := r70.kp kn
     replace kw := kw.trans kn
     replace A0_0 := kn.cell0 A0_0
     replace A0_1 := kn.cell0 A0_1
     replace A0_2 := kn.cell0 A0_2
     replace A1_0 := kn.cell0 A1_0
     replace A1_1 := kn.cell0 A1_1
     replace A1_2 := kn.cell0 A1_2
     replace K := hide ((unhide K).trans kn)
     have z9 := kn.size
     clear kn
     have szx0_ : w6.heap.size < (w6.alloc (.cells #[.bool false, .slice none 0 0, .int .i64 0] 34)).heap.size := by simp
     have x0_0 : (w6.alloc (.cells #[.bool false, .slice none 0 0, .int .i64 0] 34)).cell? ⟨w6.heap.size, 0, none⟩ = some (.bool false) := new_cell2 _ _ _ _ _ _ rfl rfl
     have x0_f0 : (w6.alloc (.cells #[.bool false, .slice none 0 0, .int .i64 0] 34)).frozen? ⟨w6.heap.size, 0, none⟩ = false := new_loose2 _ _ _ _ _ rfl
     have x0_1 : (w6.alloc (.cells #[.bool false, .slice none 0 0, .int .i64 0] 34)).cell? ⟨w6.heap.size, 1, none⟩ = some (.slice none 0 0) := new_cell2 _ _ _ _ _ _ rfl rfl
     have x0_f1 : (w6.alloc (.cells #[.bool false, .slice none 0 0, .int .i64 0] 34)).frozen? ⟨w6.heap.size, 1, none⟩ = false := new_loose2 _ _ _ _ _ rfl
     have x0_2 : (w6.alloc (.cells #[.bool false, .slice none 0 0, .int .i64 0] 34)).cell? ⟨w6.heap.size, 2, none⟩ = some (.int .i64 0) := new_cell2 _ _ _ _ _ _ rfl rfl
     have x0_f2 : (w6.alloc (.cells #[.bool false, .slice none 0 0, .int .i64 0] 34)).frozen? ⟨w6.heap.size, 2, none⟩ = false := new_loose2 _ _ _ _ _ rfl
     clear hH
     refine hK.out _ _ ?_ (fun hH => ?_)
     ·exact ⟨A0_0, A0_1, A0_2, A1_0, A1_1, A1_2⟩
     clear hK KK
     try simp only [Act.put, zq1, zq2, zq3, zq4, zq5, zq6]
     generalize w6.alloc (.cells #[.bool false, .slice none 0 0, .int .i64 0] 34) = w8 at *
     refine wpAnyH_ready (rs := [3]) (by kernel_rfl) (by simp) ?_
     refine AllReadyH.cons rfl (fun KK hK => ?_) AllReadyH.nil
     ·simp only [zq1, zq2, zq3]
      rw [if_pos (by rfl)]
      refine wps1 6 (.tmp 34) _ rfl in_toD (.agg #[.bool s1, .slice a1 z1.length c1, .int .i64 y1]) rfl (toDy_any (s1) (y1) _ hn1 r1) ?_
      rintro e w10 ⟨v71, rfl, r71, k10⟩
      refine ⟨_, rfl, ?_⟩
      replace r0 := r0.kp k10
      replace r1 := r1.kp k10
      replace r70 := r70.kp k10
      replace kw := kw.trans k10
      replace x0_f0 := k10.loose0 (zbl x0_0) x0_f0
      replace x0_f1 := k10.loose0 (zbl x0_1) x0_f1
      replace x0_f2 := k10.loose0 (zbl x0_2) x0_f2
      replace A0_0 := k10.cell0 A0_0
      replace A0_1 := k10.cell0 A0_1
      replace A0_2 := k10.cell0 A0_2
      replace A1_0 := k10.cell0 A1_0
      replace A1_1 := k10.cell0 A1_1
      replace A1_2 := k10.cell0 A1_2
      replace x0_0 := k10.cell0 x0_0
      replace x0_1 := k10.cell0 x0_1
      replace x0_2 := k10.cell0 x0_2
      replace K := hide ((unhide K).trans k10)
      have z11 := k10.size
      clear k10
      clear hH
      refine hK.out _ _ ?_ (fun hH => ?_)
      ·exact ⟨A0_0, A0_1, A0_2, A1_0, A1_1, A1_2⟩
      clear hK KK
      try simp only [Act.put, zq1, zq2, zq3, zq4, zq5, zq6]
      refine wpAnyH_ready (rs := [6]) (by kernel_rfl) (by simp) ?_
      refine AllReadyH.cons rfl (fun KK hK => ?_) AllReadyH.nil
      ·simp only [zq1, zq2, zq3]
       rw [if_pos (by rfl)]
       have mk := ddiv_spec s0 s1 y0 y1 gy0.1 gy0.2 gy1.1 gy1.2 p2 p3 w10 r70 r71
       simp only [unhide EB1, unhide EL0, unhide EH0, unhide EG0] at mk
       refine wps4 5 (.tmp 33) (.tmp 35) (.tmp 36) (.tmp 37) _ rfl in_spec_DyDiv (.agg #[.bool s0, v70, .int .i64 y0]) (.agg #[.bool s1, v71, .int .i64 y1]) (.int .i64 p2) (.int .i64 p3) rfl rfl rfl rfl mk ?_
       rintro e w12 ⟨v90, rfl, r90, k12⟩
       refine ⟨_, rfl, ?_⟩
       clear mk
       replace r0 := r0.kp k12
       replace r1 := r1.kp k12
       replace r70 := r70.kp k12
       replace r71 := r71.kp k12
       replace kw := kw.trans k12
       replace x0_f0 := k12.loose0 (zbl x0_0) x0_f0
       replace x0_f1 := k12.loose0 (zbl x0_1) x0_f1
       replace x0_f2 := k12.loose0 (zbl x0_2) x0_f2
       replace A0_0 := k12.cell0 A0_0
       replace A0_1 := k12.cell0 A0_1
       replace A0_2 := k12.cell0 A0_2
       replace A1_0 := k12.cell0 A1_0
       replace A1_1 := k12.cell0 A1_1
       replace A1_2 := k12.cell0 A1_2
       replace x0_0 := k12.cell0 x0_0
       replace x0_1 := k12.cell0 x0_1
       replace x0_2 := k12.cell0 x0_2
       replace K := hide ((unhide K).trans k12)
       have z13 := k12.size
       obtain ⟨a90, d90, hv⟩ := Row.form' r90
       subst hv
       clear k12
       clear hH
       refine hK.out _ _ ?_ (fun hH => ?_)
       ·exact ⟨A0_0, A0_1, A0_2, A1_0, A1_1, A1_2⟩
       clear hK KK
       try simp only [Act.put, zq1, zq2, zq3, zq4, zq5, zq6]
       refine wpAnyH_take (i := 7) (v := .tuple #[.agg #[.bool G0, .slice a90 L0.length d90, .int .i64 H0], .bool B1]) rfl (by kernel_rfl) (by kernel_rfl) (by kernel_rfl) (fun _ _ _ h => h) (Or.inl ⟨by rfl, ?_⟩) hH ?_
       ·intro wq hSw
        try dsimp only at hSw
        go_simp
       try simp only [Act.put, zq1, zq2, zq3, zq4, zq5, zq6]
       refine wpAnyH_take (i := 8) (v := .agg #[.bool G0, .slice a90 L0.length d90, .int .i64 H0]) rfl (by kernel_rfl) (by kernel_rfl) (by kernel_rfl) (fun _ _ _ h => h) (Or.inl ⟨by rfl, ?_⟩) hH ?_
       ·intro wq hSw
        try dsimp only at hSw
        go_simp
       try simp only [Act.put, zq1, zq2, zq3, zq4, zq5, zq6]
       refine wpAnyH_take (i := 9) (v := .bool B1) rfl (by kernel_rfl) (by kernel_rfl) (by kernel_rfl) (fun _ _ _ h => h) (Or.inl ⟨by rfl, ?_⟩) hH ?_
       ·intro wq hSw
        try dsimp only at hSw
        go_simp
       try simp only [Act.put, zq1, zq2, zq3, zq4, zq5, zq6]
       refine wpAnyH_ready (rs := [11]) (by kernel_rfl) (by simp) ?_
       refine AllReadyH.cons rfl (fun KK hK => ?_) AllReadyH.nil
       simp only [zq1, zq2, zq3]
       rw [if_pos (by rfl)]
       go_simp
       clear hH
       refine hK.out _ _ ?_ (fun hH => ?_)
       ·exact ⟨(cw3 (by have := unhide S0; dsimp only; omega) A0_0), (cw3 (by have := unhide S0; dsimp only; omega) A0_1), (cw3 (by have := unhide S0; dsimp only; omega) A0_2), (cw3 (by have := unhide S0; dsimp only; omega) A1_0), (cw3 (by have := unhide S0; dsimp only; omega) A1_1), (cw3 (by have := unhide S0; dsimp only; omega) A1_2)⟩
       clear hK KK
       try simp only [Act.put, zq1, zq2, zq3, zq4, zq5, zq6]
       refine wpAnyH_take (i := 12) (v := .bool B1) rfl (by kernel_rfl) (by kernel_rfl) (by kernel_rfl) (fun _ _ _ h => h) (Or.inl ⟨by rfl, ?_⟩) hH ?_
       ·intro wq hSw
        try dsimp only at hSw
        go_simp
       try simp only [Act.put, zq1, zq2, zq3, zq4, zq5, zq6]
       refine wpAnyH_done (by kernel_rfl) ?_ _
       clear hH
       go_wp2_with fail
       go_meet
       exact ⟨_, _, rfl, rfl, law_setD G0 H0 kw x0_0 x0_1 x0_2 r90 (by omega) (by omega) (by omega)⟩
   ·simp only [zq1, zq2, zq3]
    rw [if_pos (by rfl)]
    go_simp
    have kn := (Kept.refl 0 0 wd).alloc (.cells #[.bool false, .slice none 0 0, .int .i64 0] 34)
    replace r0 := r0.kp kn
    replace r1 := r1.kp kn
    replace kw := kw.trans kn
    replace A0_0 := kn.cell0 A0_0
    replace A0_1 := kn.cell0 A0_1
    replace A0_2 := kn.cell0 A0_2
    replace A1_0 := kn.cell0 A1_0
    replace A1_1 := kn.cell0 A1_1
    replace A1_2 := kn.cell0 A1_2
    replace K := hide ((unhide K).trans kn)
    have z7 := kn.size
    clear kn
    have szx0_ : wd.heap.size < (wd.alloc (.cells #[.bool false, .slice none 0 0, .int .i64 0] 34)).heap.size := by simp
    have x0_0 : (wd.alloc (.cells #[.bool false, .slice none 0 0, .int .i64 0] 34)).cell? ⟨wd.heap.size, 0, none⟩ = some (.bool false) := new_cell2 _ _ _ _ _ _ rfl rfl
    have x0_f0 : (wd.alloc (.cells #[.bool false, .slice none 0 0, .int .i64 0] 34)).frozen? ⟨wd.heap.size, 0, none⟩ = false := new_loose2 _ _ _ _ _ rfl
    have x0_1 : (wd.alloc (.cells #[.bool false, .slice none 0 0, .int .i64 0] 34)).cell? ⟨wd.heap.size, 1, none⟩ = some (.slice none 0 0) := new_cell2 _ _ _ _ _ _ rfl rfl
    have x0_f1 : (wd.alloc (.cells #[.bool false, .slice none 0 0, .int .i64 0] 34)).frozen? ⟨wd.heap.size, 1, none⟩ = false := new_loose2 _ _ _ _ _ rfl
    have x0_2 : (wd.alloc (.cells #[.bool false, .slice none 0 0, .int .i64 0] 34)).cell? ⟨wd.heap.size, 2, none⟩ = some (.int .i64 0) := new_cell2 _ _ _ _ _ _ rfl rfl
    have x0_f2 : (wd.alloc (.cells #[.bool false, .slice none 0 0, .int .i64 0] 34)).frozen? ⟨wd.heap.size, 2, none⟩ = false := new_loose2 _ _ _ _ _ rfl
    clear hH
    refine hK.out _ _ ?_ (fun hH => ?_)
    ·exact ⟨A0_0, A0_1, A0_2, A1_0, A1_1, A1_2⟩
    clear hK KK
    try simp only [Act.put, zq1, zq2, zq3, zq4, zq5, zq6]
    generalize wd.alloc (.cells #[.bool false, .slice none 0 0, .int .i64 0] 34) = w6 at *
    refine wpAnyH_ready (rs := [1]) (by kernel_rfl) (by simp) ?_
    refine AllReadyH.cons rfl (fun KK hK => ?_) AllReadyH.nil
    ·simp only [zq1, zq2, zq3]
     rw [if_pos (by rfl)]
     refine wps1 6 (.tmp 32) _ rfl in_toD (.agg #[.bool s0, .slice a0 z0.length c0, .int .i64 y0]) rfl (toDy_any (s0) (y0) _ hn0 r0) ?_
     rintro e w8 ⟨v70, rfl, r70, k8⟩
     refine ⟨_, rfl, ?_⟩
     replace r0 := r0.kp k8
     replace r1 := r1.kp k8
     replace kw := kw.trans k8
     replace x0_f0 := k8.loose0 (zbl x0_0) x0_f0
     replace x0_f1 := k8.loose0 (zbl x0_1) x0_f1
     replace x0_f2 := k8.loose0 (zbl x0_2) x0_f2
     replace A0_0 := k8.cell0 A0_0
     replace A0_1 := k8.cell0 A0_1
     replace A0_2 := k8.cell0 A0_2
     replace A1_0 := k8.cell0 A1_0
     replace A1_1 := k8.cell0 A1_1
     replace A1_2 := k8.cell0 A1_2
     replace x0_0 := k8.cell0 x0_0
     replace x0_1 := k8.cell0 x0_1
     replace x0_2 := k8.cell0 x0_2
     replace K := hide ((unhide K).trans k8)
     have z9 := k8.size
     clear k8
     clear hH
     refine hK.out _ _ ?_ (fun hH => ?_)
     ·exact ⟨A0_0, A0_1, A0_2, A1_0, A1_1, A1_2⟩
     clear hK KK
     try simp only [Act.put, zq1, zq2, zq3, zq4, zq5, zq6]
     refine wpAnyH_ready (rs := [3]) (by kernel_rfl) (by simp) ?_
     refine AllReadyH.cons rfl (fun KK hK => ?_) AllReadyH.nil
     ·simp only [zq1, zq2, zq3]
      rw [if_pos (by rfl)]
      refine wps1 6 (.tmp 34) _ rfl in_toD (.agg #[.bool s1, .slice a1 z1.length c1, .int .i64 y1]) rfl (toDy_any (s1) (y1) _ hn1 r1) ?_
      rintro e w10 ⟨v71, rfl, r71, k10⟩
      refine ⟨_, rfl, ?_⟩
      replace r0 := r0.kp k10
      replace r1 := r1.kp k10
      replace r70 := r70.kp k10
      replace kw := kw.trans k10
      replace x0_f0 := k10.loose0 (zbl x0_0) x0_f0
      replace x0_f1 := k10.loose0 (zbl x0_1) x0_f1
      replace x0_f2 := k10.loose0 (zbl x0_2) x0_f2
      replace A0_0 := k10.cell0 A0_0
      replace A0_1 := k10.cell0 A0_1
      replace A0_2 := k10.cell0 A0_2
      replace A1_0 := k10.cell0 A1_0
      replace A1_1 := k10.cell0 A1_1
      replace A1_2 := k10.cell0 A1_2
      replace x0_0 := k10.cell0 x0_0
      replace x0_1 := k10.cell0 x0_1
      replace x0_2 := k10.cell0 x0_2
      replace K := hide ((unhide K).trans k10)
      have z11 := k10.size
      clear k10
      clear hH
      refine hK.out _ _ ?_ (fun hH => ?_)
      ·exact ⟨A0_0, A0_1, A0_2, A1_0, A1_1, A1_2⟩
      clear hK KK
      try simp only [Act.put, zq1, zq2, zq3, zq4, zq5, zq6]
      refine wpAnyH_ready (rs := [6]) (by kernel_rfl) (by simp) ?_
      refine AllReadyH.cons rfl (fun KK hK => ?_) AllReadyH.nil
      ·simp only [zq1, zq2, zq3]
       rw [if_pos (by rfl)]
       have mk := ddiv_spec s0 s1 y0 y1 gy0.1 gy0.2 gy1.1 gy1.2 p2 p3 w10 r70 r71
       simp only [unhide EB1, unhide EL0, unhide EH0, unhide EG0] at mk
       refine wps4 5 (.tmp 33) (.tmp 35) (.tmp 36) (.tmp 37) _ rfl in_spec_DyDiv (.agg #[.bool s0, v70, .int .i64 y0]) (.agg #[.bool s1, v71, .int .i64 y1]) (.int .i64 p2) (.int .i64 p3) rfl rfl rfl rfl mk ?_
       rintro e w12 ⟨v90, rfl, r90, k12⟩
       refine ⟨_, rfl, ?_⟩
       clear mk
       replace r0 := r0.kp k12
       replace r1 := r1.kp k12
       replace r70 := r70.kp k12
       replace r71 := r71.kp k12
       replace kw := kw.trans k12
       replace x0_f0 := k12.loose0 (zbl x0_0) x0_f0
       replace x0_f1 := k12.loose0 (zbl x0_1) x0_f1
       replace x0_f2 := k12.loose0 (zbl x0_2) x0_f2
       replace A0_0 := k12.cell0 A0_0
       replace A0_1 := k12.cell0 A0_1
       replace A0_2 := k12.cell0 A0_2
       replace A1_0 := k12.cell0 A1_0
       replace A1_1 := k12.cell0 A1_1
       replace A1_2 := k12.cell0 A1_2
       replace x0_0 := k12.cell0 x0_0
       replace x0_1 := k12.cell0 x0_1
       replace x0_2 := k12.cell0 x0_2
       replace K := hide ((unhide K).trans k12)
       have z13 := k12.size
       obtain ⟨a90, d90, hv⟩ := Row.form' r90
       subst hv
       clear k12
       clear hH
       refine hK.out _ _ ?_ (fun hH => ?_)
       ·exact ⟨A0_0, A0_1, A0_2, A1_0, A1_1, A1_2⟩
       clear hK KK
       try simp only [Act.put, zq1, zq2, zq3, zq4, zq5, zq6]
       refine wpAnyH_take (i := 7) (v := .tuple #[.agg #[.bool G0, .slice a90 L0.length d90, .int .i64 H0], .bool B1]) rfl (by kernel_rfl) (by kernel_rfl) (by kernel_rfl) (fun _ _ _ h => h) (Or.inl ⟨by rfl, ?_⟩) hH ?_
       ·intro wq hSw
        try dsimp only at hSw
        go_simp
       try simp only [Act.put, zq1, zq2, zq3, zq4, zq5, zq6]
       refine wpAnyH_take (i := 8) (v := .agg #[.bool G0, .slice a90 L0.length d90, .int .i64 H0]) rfl (by kernel_rfl) (by kernel_rfl) (by kernel_rfl) (fun _ _ _ h => h) (Or.inl ⟨by rfl, ?_⟩) hH ?_
       ·intro wq hSw
        try dsimp only at hSw
        go_simp
       try simp only [Act.put, zq1, zq2, zq3, zq4, zq5, zq6]
       refine wpAnyH_take (i := 9) (v := .bool B1) rfl (by kernel_rfl) (by kernel_rfl) (by kernel_rfl) (fun _ _ _ h => h) (Or.inl ⟨by rfl, ?_⟩) hH ?_
       ·intro wq hSw
        try dsimp only at hSw
        go_simp
       try simp only [Act.put, zq1, zq2, zq3, zq4, zq5, zq6]
       refine wpAnyH_ready (rs := [11]) (by kernel_rfl) (by simp) ?_
       refine AllReadyH.cons rfl (fun KK hK => ?_) AllReadyH.nil
       simp only [zq1, zq2, zq3]
       rw [if_pos (by rfl)]
       go_simp
       clear hH
       refine hK.out _ _ ?_ (fun hH => ?_)
       ·exact ⟨(cw3 (by have := unhide S0; dsimp only; omega) A0_0), (cw3 (by have := unhide S0; dsimp only; omega) A0_1), (cw3 (by have := unhide S0; dsimp only; omega) A0_2), (cw3 (by have := unhide S0; dsimp only; omega) A1_0), (cw3 (by have := unhide S0; dsimp only; omega) A1_1), (cw3 (by have := unhide S0; dsimp only; omega) A1_2)⟩
       clear hK KK
       try simp only [Act.put, zq1, zq2, zq3, zq4, zq5, zq6]
       refine wpAnyH_take (i := 12) (v := .bool B1) rfl (by kernel_rfl) (by kernel_rfl) (by kernel_rfl) (fun _ _ _ h => h) (Or.inl ⟨by rfl, ?_⟩) hH ?_
       ·intro wq hSw
        try dsimp only at hSw
        go_simp
       try simp only [Act.put, zq1, zq2, zq3, zq4, zq5, zq6]
       refine wpAnyH_done (by kernel_rfl) ?_ _
       clear hH
       go_wp2_with fail
       go_meet
       exact ⟨_, _, rfl, rfl, law_setD G0 H0 kw x0_0 x0_1 x0_2 r90 (by omega) (by omega) (by omega)⟩
  case rest =>
   obtain ⟨Xw0, vw0, rfl, rfl, cw0_0, cw0_1, cw0_2, rw0, hXw0, hYw0, kk⟩ := hcut
   replace r0 := r0.kp kk
   replace r1 := r1.kp kk
   replace A0_0 := kk.cell0 A0_0
   replace A0_1 := kk.cell0 A0_1
   replace A0_2 := kk.cell0 A0_2
   replace A1_0 := kk.cell0 A1_0
   replace A1_1 := kk.cell0 A1_1
   replace A1_2 := kk.cell0 A1_2
   replace K := hide ((unhide K).trans kk)
   have z5 := kk.size
   clear kk
   obtain ⟨aw0, dw0, hv⟩ := Row.form' rw0
   subst hv
   generalize hwc : wc = we6 at *
   clear hwc
   go_wp2_with fail
   refine (toDy_any (s0) (y0) _ hn0 r0).mono ?_
   rintro e w7 ⟨vx0, rfl, rx0, k7⟩
   replace r0 := r0.kp k7
   replace r1 := r1.kp k7
   replace rw0 := rw0.kp k7
   replace A0_0 := k7.cell0 A0_0
   replace A0_1 := k7.cell0 A0_1
   replace A0_2 := k7.cell0 A0_2
   replace A1_0 := k7.cell0 A1_0
   replace A1_1 := k7.cell0 A1_1
   replace A1_2 := k7.cell0 A1_2
   replace cw0_0 := k7.cell0 cw0_0
   replace cw0_1 := k7.cell0 cw0_1
   replace cw0_2 := k7.cell0 cw0_2
   replace K := hide ((unhide K).trans k7)
   have z8 := k7.size
   clear k7
   obtain ⟨ax0, dx0, hv⟩ := Row.form' rx0
   subst hv
   have kn := (Kept.refl 0 0 w7).alloc (.cells #[.bool s0, .slice ax0 z0.length dx0, .int .i64 y0] 34)
   have cx0_0 : (w7.alloc (.cells #[.bool s0, .slice ax0 z0.length dx0, .int .i64 y0] 34)).cell? ⟨w7.heap.size, 0, none⟩ = some (.bool s0) := new_cell2 _ _ _ _ _ _ rfl rfl
   have cx0_1 : (w7.alloc (.cells #[.bool s0, .slice ax0 z0.length dx0, .int .i64 y0] 34)).cell? ⟨w7.heap.size, 1, none⟩ = some (.slice ax0 z0.length dx0) := new_cell2 _ _ _ _ _ _ rfl rfl
   have cx0_2 : (w7.alloc (.cells #[.bool s0, .slice ax0 z0.length dx0, .int .i64 y0] 34)).cell? ⟨w7.heap.size, 2, none⟩ = some (.int .i64 y0) := new_cell2 _ _ _ _ _ _ rfl rfl
   have t9 : w7.heap.size + 1 ≤ (w7.alloc (.cells #[.bool s0, .slice ax0 z0.length dx0, .int .i64 y0] 34)).heap.size := by simp
   replace r0 := r0.kp kn
   replace r1 := r1.kp kn
   replace rw0 := rw0.kp kn
   replace rx0 := rx0.kp kn
   replace A0_0 := kn.cell0 A0_0
   replace A0_1 := kn.cell0 A0_1
   replace A0_2 := kn.cell0 A0_2
   replace A1_0 := kn.cell0 A1_0
   replace A1_1 := kn.cell0 A1_1
   replace A1_2 := kn.cell0 A1_2
   replace cw0_0 := kn.cell0 cw0_0
   replace cw0_1 := kn.cell0 cw0_1
   replace cw0_2 := kn.cell0 cw0_2
   replace K := hide ((unhide K).trans kn)
   have z10 := kn.size
   clear kn
   go_wp2_with fail
   generalize w7.alloc (.cells #[.bool s0, .slice ax0 z0.length dx0, .int .i64 y0] 34) = wm9 at *
   refine (toDy_any (s1) (y1) _ hn1 r1).mono ?_
   rintro e w11 ⟨vx1, rfl, rx1, k11⟩
   replace r0 := r0.kp k11
   replace r1 := r1.kp k11
   replace rw0 := rw0.kp k11
   replace rx0 := rx0.kp k11
   replace A0_0 := k11.cell0 A0_0
   replace A0_1 := k11.cell0 A0_1
   replace A0_2 := k11.cell0 A0_2
   replace A1_0 := k11.cell0 A1_0
   replace A1_1 := k11.cell0 A1_1
   replace A1_2 := k11.cell0 A1_2
   replace cw0_0 := k11.cell0 cw0_0
   replace cw0_1 := k11.cell0 cw0_1
   replace cw0_2 := k11.cell0 cw0_2
   replace cx0_0 := k11.cell0 cx0_0
   replace cx0_1 := k11.cell0 cx0_1
   replace cx0_2 := k11.cell0 cx0_2
   replace K := hide ((unhide K).trans k11)
   have z12 := k11.size
   clear k11
   obtain ⟨ax1, dx1, hv⟩ := Row.form' rx1
   subst hv
   have kn := (Kept.refl 0 0 w11).alloc (.cells #[.bool s1, .slice ax1 z1.length dx1, .int .i64 y1] 34)
   have cx1_0 : (w11.alloc (.cells #[.bool s1, .slice ax1 z1.length dx1, .int .i64 y1] 34)).cell? ⟨w11.heap.size, 0, none⟩ = some (.bool s1) := new_cell2 _ _ _ _ _ _ rfl rfl
   have cx1_1 : (w11.alloc (.cells #[.bool s1, .slice ax1 z1.length dx1, .int .i64 y1] 34)).cell? ⟨w11.heap.size, 1, none⟩ = some (.slice ax1 z1.length dx1) := new_cell2 _ _ _ _ _ _ rfl rfl
   have cx1_2 : (w11.alloc (.cells #[.bool s1, .slice ax1 z1.length dx1, .int .i64 y1] 34)).cell? ⟨w11.heap.size, 2, none⟩ = some (.int .i64 y1) := new_cell2 _ _ _ _ _ _ rfl rfl
   have t13 : w11.heap.size + 1 ≤ (w11.alloc (.cells #[.bool s1, .slice ax1 z1.length dx1, .int .i64 y1] 34)).heap.size := by simp
   replace r0 := r0.kp kn
   replace r1 := r1.kp kn
   replace rw0 := rw0.kp kn
   replace rx0 := rx0.kp kn
   replace rx1 := rx1.kp kn
   replace A0_0 := kn.cell0 A0_0
   replace A0_1 := kn.cell0 A0_1
   replace A0_2 := kn.cell0 A0_2
   replace A1_0 := kn.cell0 A1_0
   replace A1_1 := kn.cell0 A1_1
   replace A1_2 := kn.cell0 A1_2
   replace cw0_0 := kn.cell0 cw0_0
   replace cw0_1 := kn.cell0 cw0_1
   replace cw0_2 := kn.cell0 cw0_2
   replace cx0_0 := kn.cell0 cx0_0
   replace cx0_1 := kn.cell0 cx0_1
   replace cx0_2 := kn.cell0 cx0_2
   replace K := hide ((unhide K).trans kn)
   have z14 := kn.size
   clear kn
   go_wp2_with fail
   generalize w11.alloc (.cells #[.bool s1, .slice ax1 z1.length dx1, .int .i64 y1] 34) = wm13 at *
   have mk := ddiv_impl s0 s1 y0 y1 gy0.1 gy0.2 gy1.1 gy1.2 p2 p3 wm13 rx0 rx1 (T.kept (unhide K))
   simp only [unhide EB1, unhide EL0, unhide EH0, unhide EG0] at mk
   refine (mk).mono ?_
   rintro e w15 ⟨vg0, rfl, rg0, k15⟩
   replace r0 := r0.kp k15
   replace r1 := r1.kp k15
   replace rw0 := rw0.kp k15
   replace rx0 := rx0.kp k15
   replace rx1 := rx1.kp k15
   replace A0_0 := k15.cell0 A0_0
   replace A0_1 := k15.cell0 A0_1
   replace A0_2 := k15.cell0 A0_2
   replace A1_0 := k15.cell0 A1_0
   replace A1_1 := k15.cell0 A1_1
   replace A1_2 := k15.cell0 A1_2
   replace cw0_0 := k15.cell0 cw0_0
   replace cw0_1 := k15.cell0 cw0_1
   replace cw0_2 := k15.cell0 cw0_2
   replace cx0_0 := k15.cell0 cx0_0
   replace cx0_1 := k15.cell0 cx0_1
   replace cx0_2 := k15.cell0 cx0_2
   replace cx1_0 := k15.cell0 cx1_0
   replace cx1_1 := k15.cell0 cx1_1
   replace cx1_2 := k15.cell0 cx1_2
   replace K := hide ((unhide K).trans k15)
   have z16 := k15.size
   clear k15
   clear mk
   obtain ⟨ag0, dg0, hv⟩ := Row.form' rg0
   subst hv
   have kn := (Kept.refl 0 0 w15).alloc (.cells #[.bool G0, .slice ag0 L0.length dg0, .int .i64 H0] 34)
   have cg0_0 : (w15.alloc (.cells #[.bool G0, .slice ag0 L0.length dg0, .int .i64 H0] 34)).cell? ⟨w15.heap.size, 0, none⟩ = some (.bool G0) := new_cell2 _ _ _ _ _ _ rfl rfl
   have cg0_1 : (w15.alloc (.cells #[.bool G0, .slice ag0 L0.length dg0, .int .i64 H0] 34)).cell? ⟨w15.heap.size, 1, none⟩ = some (.slice ag0 L0.length dg0) := new_cell2 _ _ _ _ _ _ rfl rfl
   have cg0_2 : (w15.alloc (.cells #[.bool G0, .slice ag0 L0.length dg0, .int .i64 H0] 34)).cell? ⟨w15.heap.size, 2, none⟩ = some (.int .i64 H0) := new_cell2 _ _ _ _ _ _ rfl rfl
   have t17 : w15.heap.size + 1 ≤ (w15.alloc (.cells #[.bool G0, .slice ag0 L0.length dg0, .int .i64 H0] 34)).heap.size := by simp
   replace r0 := r0.kp kn
   replace r1 := r1.kp kn
   replace rw0 := rw0.kp kn
   replace rx0 := rx0.kp kn
   replace rx1 := rx1.kp kn
   replace rg0 := rg0.kp kn
   replace A0_0 := kn.cell0 A0_0
   replace A0_1 := kn.cell0 A0_1
   replace A0_2 := kn.cell0 A0_2
   replace A1_0 := kn.cell0 A1_0
   replace A1_1 := kn.cell0 A1_1
   replace A1_2 := kn.cell0 A1_2
   replace cw0_0 := kn.cell0 cw0_0
   replace cw0_1 := kn.cell0 cw0_1
   replace cw0_2 := kn.cell0 cw0_2
   replace cx0_0 := kn.cell0 cx0_0
   replace cx0_1 := kn.cell0 cx0_1
   replace cx0_2 := kn.cell0 cx0_2
   replace cx1_0 := kn.cell0 cx1_0
   replace cx1_1 := kn.cell0 cx1_1
   replace cx1_2 := kn.cell0 cx1_2
   replace K := hide ((unhide K).trans kn)
   have z18 := kn.size
   clear kn
   go_wp2_with fail
   generalize w15.alloc (.cells #[.bool G0, .slice ag0 L0.length dg0, .int .i64 H0] 34) = wm17 at *
   refine (eqDy_same (G0) (H0) _ rg0 rw0).mono ?_
   rintro e w19 ⟨rfl, k19⟩
   replace r0 := r0.kp k19
   replace r1 := r1.kp k19
   replace rw0 := rw0.kp k19
   replace rx0 := rx0.kp k19
   replace rx1 := rx1.kp k19
   replace rg0 := rg0.kp k19
   replace A0_0 := k19.cell0 A0_0
   replace A0_1 := k19.cell0 A0_1
   replace A0_2 := k19.cell0 A0_2
   replace A1_0 := k19.cell0 A1_0
   replace A1_1 := k19.cell0 A1_1
   replace A1_2 := k19.cell0 A1_2
   replace cw0_0 := k19.cell0 cw0_0
   replace cw0_1 := k19.cell0 cw0_1
   replace cw0_2 := k19.cell0 cw0_2
   replace cx0_0 := k19.cell0 cx0_0
   replace cx0_1 := k19.cell0 cx0_1
   replace cx0_2 := k19.cell0 cx0_2
   replace cx1_0 := k19.cell0 cx1_0
   replace cx1_1 := k19.cell0 cx1_1
   replace cx1_2 := k19.cell0 cx1_2
   replace cg0_0 := k19.cell0 cg0_0
   replace cg0_1 := k19.cell0 cg0_1
   replace cg0_2 := k19.cell0 cg0_2
   replace K := hide ((unhide K).trans k19)
   have z20 := k19.size
   clear k19
   go_wp2_with fail
   have kd := (Kept.refl 0 0 w19).drew
   replace r0 := r0.kp kd
   replace r1 := r1.kp kd
   replace rw0 := rw0.kp kd
   replace rx0 := rx0.kp kd
   replace rx1 := rx1.kp kd
   replace rg0 := rg0.kp kd
   replace A0_0 := kd.cell0 A0_0
   replace A0_1 := kd.cell0 A0_1
   replace A0_2 := kd.cell0 A0_2
   replace A1_0 := kd.cell0 A1_0
   replace A1_1 := kd.cell0 A1_1
   replace A1_2 := kd.cell0 A1_2
   replace cw0_0 := kd.cell0 cw0_0
   replace cw0_1 := kd.cell0 cw0_1
   replace cw0_2 := kd.cell0 cw0_2
   replace cx0_0 := kd.cell0 cx0_0
   replace cx0_1 := kd.cell0 cx0_1
   replace cx0_2 := kd.cell0 cx0_2
   replace cx1_0 := kd.cell0 cx1_0
   replace cx1_1 := kd.cell0 cx1_1
   replace cx1_2 := kd.cell0 cx1_2
   replace cg0_0 := kd.cell0 cg0_0
   replace cg0_1 := kd.cell0 cg0_1
   replace cg0_2 := kd.cell0 cg0_2
   replace K := hide ((unhide K).trans kd)
   have z21 := kd.size
   clear kd
   refine wp_region_held_drew (S := (fun w' => w'.cell? ⟨w.heap.size, 0, none⟩ = some (.bool s0) ∧ w'.cell? ⟨w.heap.size, 1, none⟩ = some (.slice a0 z0.length c0) ∧ w'.cell? ⟨w.heap.size, 2, none⟩ = some (.int .i64 y0) ∧ w'.cell? ⟨w7.heap.size, 0, none⟩ = some (.bool s0) ∧ w'.cell? ⟨w7.heap.size, 1, none⟩ = some (.slice ax0 z0.length dx0) ∧ w'.cell? ⟨w7.heap.size, 2, none⟩ = some (.int .i64 y0))) (by kernel_rfl) ?_ (fun hH => ?_)
   ·exact ⟨A0_0, A0_1, A0_2, cx0_0, cx0_1, cx0_2⟩
   refine wpAnyH_take (i := 0) (v := .agg #[.bool s0, .slice ax0 z0.length dx0, .int .i64 y0]) rfl (by kernel_rfl) (by kernel_rfl) (by kernel_rfl) (fun _ _ _ h => h) (Or.inl ⟨by rfl, ?_⟩) hH ?_
   ·intro wq hSw
    try dsimp only at hSw
    go_simp
   try simp only [Act.put, zq1, zq2, zq3, zq4, zq5, zq6]
   refine wpAnyH_take (i := 1) (v := .agg #[.bool s0, .slice a0 z0.length c0, .int .i64 y0]) rfl (by kernel_rfl) (by kernel_rfl) (by kernel_rfl) (fun _ _ _ h => h) (Or.inl ⟨by rfl, ?_⟩) hH ?_
   ·intro wq hSw
    try dsimp only at hSw
    go_simp
   try simp only [Act.put, zq1, zq2, zq3, zq4, zq5, zq6]
   refine wpAnyH_ready (rs := [2]) (by kernel_rfl) (by simp) ?_
   refine AllReadyH.cons rfl (fun KK hK => ?_) AllReadyH.nil
   simp only [zq1, zq2, zq3]
   rw [if_pos (by rfl)]
   refine wps1 6 (.tmp 63) _ rfl in_toD (.agg #[.bool s0, .slice a0 z0.length c0, .int .i64 y0]) rfl (toDy_any (s0) (y0) _ hn0 r0) ?_
   rintro e w22 ⟨v80, rfl, r80, k22⟩
   refine ⟨_, rfl, ?_⟩
   replace r0 := r0.kp k22
   replace r1 := r1.kp k22
   replace rw0 := rw0.kp k22
   replace rx0 := rx0.kp k22
   replace rx1 := rx1.kp k22
   replace rg0 := rg0.kp k22
   replace A0_0 := k22.cell0 A0_0
   replace A0_1 := k22.cell0 A0_1
   replace A0_2 := k22.cell0 A0_2
   replace A1_0 := k22.cell0 A1_0
   replace A1_1 := k22.cell0 A1_1
   replace A1_2 := k22.cell0 A1_2
   replace cw0_0 := k22.cell0 cw0_0
   replace cw0_1 := k22.cell0 cw0_1
   replace cw0_2 := k22.cell0 cw0_2
   replace cx0_0 := k22.cell0 cx0_0
   replace cx0_1 := k22.cell0 cx0_1
   replace cx0_2 := k22.cell0 cx0_2
   replace cx1_0 := k22.cell0 cx1_0
   replace cx1_1 := k22.cell0 cx1_1
   replace cx1_2 := k22.cell0 cx1_2
   replace cg0_0 := k22.cell0 cg0_0
   replace cg0_1 := k22.cell0 cg0_1
   replace cg0_2 := k22.cell0 cg0_2
   replace K := hide ((unhide K).trans k22)
   have z23 := k22.size
   clear k22
   clear hH
   refine hK.out _ _ ?_ (fun hH => ?_)
   ·exact ⟨A0_0, A0_1, A0_2, cx0_0, cx0_1, cx0_2⟩
   clear hK KK
   try simp only [Act.put, zq1, zq2, zq3, zq4, zq5, zq6]
   refine wpAnyH_ready (rs := [3]) (by kernel_rfl) (by simp) ?_
   refine AllReadyH.cons rfl (fun KK hK => ?_) AllReadyH.nil
   simp only [zq1, zq2, zq3]
   rw [if_pos (by rfl)]
   refine wps2 8 (.tmp 62) (.tmp 64) _ rfl in_eqD (.agg #[.bool s0, .slice ax0 z0.length dx0, .int .i64 y0]) (.agg #[.bool s0, v80, .int .i64 y0]) rfl rfl (eqDy_same (s0) (y0) _ rx0 r80) ?_
   rintro e w24 ⟨rfl, k24⟩
   refine ⟨_, rfl, ?_⟩
   replace r0 := r0.kp k24
   replace r1 := r1.kp k24
   replace rw0 := rw0.kp k24
   replace rx0 := rx0.kp k24
   replace rx1 := rx1.kp k24
   replace rg0 := rg0.kp k24
   replace r80 := r80.kp k24
   replace A0_0 := k24.cell0 A0_0
   replace A0_1 := k24.cell0 A0_1
   replace A0_2 := k24.cell0 A0_2
   replace A1_0 := k24.cell0 A1_0
   replace A1_1 := k24.cell0 A1_1
   replace A1_2 := k24.cell0 A1_2
   replace cw0_0 := k24.cell0 cw0_0
   replace cw0_1 := k24.cell0 cw0_1
   replace cw0_2 := k24.cell0 cw0_2
   replace cx0_0 := k24.cell0 cx0_0
   replace cx0_1 := k24.cell0 cx0_1
   replace cx0_2 := k24.cell0 cx0_2
   replace cx1_0 := k24.cell0 cx1_0
   replace cx1_1 := k24.cell0 cx1_1
   replace cx1_2 := k24.cell0 cx1_2
   replace cg0_0 := k24.cell0 cg0_0
   replace cg0_1 := k24.cell0 cg0_1
   replace cg0_2 := k24.cell0 cg0_2
   replace K := hide ((unhide K).trans k24)
   have z25 := k24.size
   clear k24
   clear hH
   refine hK.out _ _ ?_ (fun hH => ?_)
   ·exact ⟨A0_0, A0_1, A0_2, cx0_0, cx0_1, cx0_2⟩
   clear hK KK
   try simp only [Act.put, zq1, zq2, zq3, zq4, zq5, zq6]
   refine wpAnyH_take (i := 4) (v := .bool false) rfl (by kernel_rfl) (by kernel_rfl) (by kernel_rfl) (fun _ _ _ h => h) (Or.inl ⟨by rfl, ?_⟩) hH ?_
   ·intro wq hSw
    try dsimp only at hSw
    go_simp
   try simp only [Act.put, zq1, zq2, zq3, zq4, zq5, zq6]
   refine wpAnyH_done (by kernel_rfl) ?_ _
   clear hH
   clear r80
   go_wp2_with fail
   have kd := (Kept.refl 0 0 w24).drew
   replace r0 := r0.kp kd
   replace r1 := r1.kp kd
   replace rw0 := rw0.kp kd
   replace rx0 := rx0.kp kd
   replace rx1 := rx1.kp kd
   replace rg0 := rg0.kp kd
   replace A0_0 := kd.cell0 A0_0
   replace A0_1 := kd.cell0 A0_1
   replace A0_2 := kd.cell0 A0_2
   replace A1_0 := kd.cell0 A1_0
   replace A1_1 := kd.cell0 A1_1
   replace A1_2 := kd.cell0 A1_2
   replace cw0_0 := kd.cell0 cw0_0
   replace cw0_1 := kd.cell0 cw0_1
   replace cw0_2 := kd.cell0 cw0_2
   replace cx0_0 := kd.cell0 cx0_0
   replace cx0_1 := kd.cell0 cx0_1
   replace cx0_2 := kd.cell0 cx0_2
   replace cx1_0 := kd.cell0 cx1_0
   replace cx1_1 := kd.cell0 cx1_1
   replace cx1_2 := kd.cell0 cx1_2
   replace cg0_0 := kd.cell0 cg0_0
   replace cg0_1 := kd.cell0 cg0_1
   replace cg0_2 := kd.cell0 cg0_2
   replace K := hide ((unhide K).trans kd)
   have z26 := kd.size
   clear kd
   refine wp_region_held_drew (S := (fun w' => w'.cell? ⟨w.heap.size + 1, 0, none⟩ = some (.bool s1) ∧ w'.cell? ⟨w.heap.size + 1, 1, none⟩ = some (.slice a1 z1.length c1) ∧ w'.cell? ⟨w.heap.size + 1, 2, none⟩ = some (.int .i64 y1) ∧ w'.cell? ⟨w11.heap.size, 0, none⟩ = some (.bool s1) ∧ w'.cell? ⟨w11.heap.size, 1, none⟩ = some (.slice ax1 z1.length dx1) ∧ w'.cell? ⟨w11.heap.size, 2, none⟩ = some (.int .i64 y1))) (by kernel_rfl) ?_ (fun hH => ?_)
   ·exact ⟨A1_0, A1_1, A1_2, cx1_0, cx1_1, cx1_2⟩
   refine wpAnyH_take (i := 0) (v := .agg #[.bool s1, .slice ax1 z1.length dx1, .int .i64 y1]) rfl (by kernel_rfl) (by kernel_rfl) (by kernel_rfl) (fun _ _ _ h => h) (Or.inl ⟨by rfl, ?_⟩) hH ?_
   ·intro wq hSw
    try dsimp only at hSw
    go_simp
   try simp only [Act.put, zq1, zq2, zq3, zq4, zq5, zq6]
   refine wpAnyH_take (i := 1) (v := .agg #[.bool s1, .slice a1 z1.length c1, .int .i64 y1]) rfl (by kernel_rfl) (by kernel_rfl) (by kernel_rfl) (fun _ _ _ h => h) (Or.inl ⟨by rfl, ?_⟩) hH ?_
   ·intro wq hSw
    try dsimp only at hSw
    go_simp
   try simp only [Act.put, zq1, zq2, zq3, zq4, zq5, zq6]
   refine wpAnyH_ready (rs := [2]) (by kernel_rfl) (by simp) ?_
   refine AllReadyH.cons rfl (fun KK hK => ?_) AllReadyH.nil
   simp only [zq1, zq2, zq3]
   rw [if_pos (by rfl)]
   refine wps1 6 (.tmp 68) _ rfl in_toD (.agg #[.bool s1, .slice a1 z1.length c1, .int .i64 y1]) rfl (toDy_any (s1) (y1) _ hn1 r1) ?_
   rintro e w27 ⟨v81, rfl, r81, k27⟩
   refine ⟨_, rfl, ?_⟩
   replace r0 := r0.kp k27
   replace r1 := r1.kp k27
   replace rw0 := rw0.kp k27
   replace rx0 := rx0.kp k27
   replace rx1 := rx1.kp k27
   replace rg0 := rg0.kp k27
   replace A0_0 := k27.cell0 A0_0
   replace A0_1 := k27.cell0 A0_1
   replace A0_2 := k27.cell0 A0_2
   replace A1_0 := k27.cell0 A1_0
   replace A1_1 := k27.cell0 A1_1
   replace A1_2 := k27.cell0 A1_2
   replace cw0_0 := k27.cell0 cw0_0
   replace cw0_1 := k27.cell0 cw0_1
   replace cw0_2 := k27.cell0 cw0_2
   replace cx0_0 := k27.cell0 cx0_0
   replace cx0_1 := k27.cell0 cx0_1
   replace cx0_2 := k27.cell0 cx0_2
   replace cx1_0 := k27.cell0 cx1_0
   replace cx1_1 := k27.cell0 cx1_1
   replace cx1_2 := k27.cell0 cx1_2
   replace cg0_0 := k27.cell0 cg0_0
   replace cg0_1 := k27.cell0 cg0_1
   replace cg0_2 := k27.cell0 cg0_2
   replace K := hide ((unhide K).trans k27)
   have z28 := k27.size
   clear k27
   clear hH
   refine hK.out _ _ ?_ (fun hH => ?_)
   ·exact ⟨A1_0, A1_1, A1_2, cx1_0, cx1_1, cx1_2⟩
   clear hK KK
   try simp only [Act.put, zq1, zq2, zq3, zq4, zq5, zq6]
   refine wpAnyH_ready (rs := [3]) (by kernel_rfl) (by simp) ?_
   refine AllReadyH.cons rfl (fun KK hK => ?_) AllReadyH.nil
   simp only [zq1, zq2, zq3]
   rw [if_pos (by rfl)]
   refine wps2 8 (.tmp 67) (.tmp 69) _ rfl in_eqD (.agg #[.bool s1, .slice ax1 z1.length dx1, .int .i64 y1]) (.agg #[.bool s1, v81, .int .i64 y1]) rfl rfl (eqDy_same (s1) (y1) _ rx1 r81) ?_
   rintro e w29 ⟨rfl, k29⟩
   refine ⟨_, rfl, ?_⟩
   replace r0 := r0.kp k29
   replace r1 := r1.kp k29
   replace rw0 := rw0.kp k29
   replace rx0 := rx0.kp k29
   replace rx1 := rx1.kp k29
   replace rg0 := rg0.kp k29
   replace r81 := r81.kp k29
   replace A0_0 := k29.cell0 A0_0
   replace A0_1 := k29.cell0 A0_1
   replace A0_2 := k29.cell0 A0_2
   replace A1_0 := k29.cell0 A1_0
   replace A1_1 := k29.cell0 A1_1
   replace A1_2 := k29.cell0 A1_2
   replace cw0_0 := k29.cell0 cw0_0
   replace cw0_1 := k29.cell0 cw0_1
   replace cw0_2 := k29.cell0 cw0_2
   replace cx0_0 := k29.cell0 cx0_0
   replace cx0_1 := k29.cell0 cx0_1
   replace cx0_2 := k29.cell0 cx0_2
   replace cx1_0 := k29.cell0 cx1_0
   replace cx1_1 := k29.cell0 cx1_1
   replace cx1_2 := k29.cell0 cx1_2
   replace cg0_0 := k29.cell0 cg0_0
   replace cg0_1 := k29.cell0 cg0_1
   replace cg0_2 := k29.cell0 cg0_2
   replace K := hide ((unhide K).trans k29)
   have z30 := k29.size
   clear k29
   clear hH
   refine hK.out _ _ ?_ (fun hH => ?_)
   ·exact ⟨A1_0, A1_1, A1_2, cx1_0, cx1_1, cx1_2⟩
   clear hK KK
   try simp only [Act.put, zq1, zq2, zq3, zq4, zq5, zq6]
   refine wpAnyH_take (i := 4) (v := .bool false) rfl (by kernel_rfl) (by kernel_rfl) (by kernel_rfl) (fun _ _ _ h => h) (Or.inl ⟨by rfl, ?_⟩) hH ?_
   ·intro wq hSw
    try dsimp only at hSw
    go_simp
   try simp only [Act.put, zq1, zq2, zq3, zq4, zq5, zq6]
   refine wpAnyH_done (by kernel_rfl) ?_ _
   clear hH
   clear r81
   have S0' := unhide S0
   go_wp2_with fail
   refine (markDy_wide (s0) (y0) _ (1) (by omega) (by omega) hn0 rx0).mono ?_
   rintro e w31 ⟨rfl, -, k31⟩
   replace r0 := r0.kept k31 (by omega)
   replace r1 := r1.kept k31 (by omega)
   replace rw0 := rw0.kept k31 (by omega)
   replace rx1 := rx1.kept k31 (by omega)
   replace rg0 := rg0.kept k31 (by omega)
   replace A0_0 := k31.cellOut (by dsimp only; omega) A0_0
   replace A0_1 := k31.cellOut (by dsimp only; omega) A0_1
   replace A0_2 := k31.cellOut (by dsimp only; omega) A0_2
   replace A1_0 := k31.cellOut (by dsimp only; omega) A1_0
   replace A1_1 := k31.cellOut (by dsimp only; omega) A1_1
   replace A1_2 := k31.cellOut (by dsimp only; omega) A1_2
   replace cw0_0 := k31.cellOut (by dsimp only; omega) cw0_0
   replace cw0_1 := k31.cellOut (by dsimp only; omega) cw0_1
   replace cw0_2 := k31.cellOut (by dsimp only; omega) cw0_2
   replace cx0_0 := k31.cellOut (by dsimp only; omega) cx0_0
   replace cx0_1 := k31.cellOut (by dsimp only; omega) cx0_1
   replace cx0_2 := k31.cellOut (by dsimp only; omega) cx0_2
   replace cx1_0 := k31.cellOut (by dsimp only; omega) cx1_0
   replace cx1_1 := k31.cellOut (by dsimp only; omega) cx1_1
   replace cx1_2 := k31.cellOut (by dsimp only; omega) cx1_2
   replace cg0_0 := k31.cellOut (by dsimp only; omega) cg0_0
   replace cg0_1 := k31.cellOut (by dsimp only; omega) cg0_1
   replace cg0_2 := k31.cellOut (by dsimp only; omega) cg0_2
   replace K := hide ((unhide K).wide k31 (by omega))
   have z31 := k31.size
   clear k31 rx0
   go_wp2_with fail
   refine (markDy_wide (s1) (y1) _ ((1 + (z0.length : Int))) (by omega) (by omega) hn1 rx1).mono ?_
   rintro e w32 ⟨rfl, -, k32⟩
   replace r0 := r0.kept k32 (by omega)
   replace r1 := r1.kept k32 (by omega)
   replace rw0 := rw0.kept k32 (by omega)
   replace rg0 := rg0.kept k32 (by omega)
   replace A0_0 := k32.cellOut (by dsimp only; omega) A0_0
   replace A0_1 := k32.cellOut (by dsimp only; omega) A0_1
   replace A0_2 := k32.cellOut (by dsimp only; omega) A0_2
   replace A1_0 := k32.cellOut (by dsimp only; omega) A1_0
   replace A1_1 := k32.cellOut (by dsimp only; omega) A1_1
   replace A1_2 := k32.cellOut (by dsimp only; omega) A1_2
   replace cw0_0 := k32.cellOut (by dsimp only; omega) cw0_0
   replace cw0_1 := k32.cellOut (by dsimp only; omega) cw0_1
   replace cw0_2 := k32.cellOut (by dsimp only; omega) cw0_2
   replace cx0_0 := k32.cellOut (by dsimp only; omega) cx0_0
   replace cx0_1 := k32.cellOut (by dsimp only; omega) cx0_1
   replace cx0_2 := k32.cellOut (by dsimp only; omega) cx0_2
   replace cx1_0 := k32.cellOut (by dsimp only; omega) cx1_0
   replace cx1_1 := k32.cellOut (by dsimp only; omega) cx1_1
   replace cx1_2 := k32.cellOut (by dsimp only; omega) cx1_2
   replace cg0_0 := k32.cellOut (by dsimp only; omega) cg0_0
   replace cg0_1 := k32.cellOut (by dsimp only; omega) cg0_1
   replace cg0_2 := k32.cellOut (by dsimp only; omega) cg0_2
   replace K := hide ((unhide K).wide k32 (by omega))
   have z32 := k32.size
   clear k32 rx1
   have nk : ¬ ((1 + (z0.length : Int)) + (z1.length : Int)) < 0 := by omega
   go_wp2_with fail
   refine (eqDy_same (G0) (H0) _ rg0 rw0).mono ?_
   rintro e w33 ⟨rfl, k33⟩
   replace r0 := r0.kp k33
   replace r1 := r1.kp k33
   replace rw0 := rw0.kp k33
   replace rg0 := rg0.kp k33
   replace A0_0 := k33.cell0 A0_0
   replace A0_1 := k33.cell0 A0_1
   replace A0_2 := k33.cell0 A0_2
   replace A1_0 := k33.cell0 A1_0
   replace A1_1 := k33.cell0 A1_1
   replace A1_2 := k33.cell0 A1_2
   replace cw0_0 := k33.cell0 cw0_0
   replace cw0_1 := k33.cell0 cw0_1
   replace cw0_2 := k33.cell0 cw0_2
   replace cx0_0 := k33.cell0 cx0_0
   replace cx0_1 := k33.cell0 cx0_1
   replace cx0_2 := k33.cell0 cx0_2
   replace cx1_0 := k33.cell0 cx1_0
   replace cx1_1 := k33.cell0 cx1_1
   replace cx1_2 := k33.cell0 cx1_2
   replace cg0_0 := k33.cell0 cg0_0
   replace cg0_1 := k33.cell0 cg0_1
   replace cg0_2 := k33.cell0 cg0_2
   replace K := hide ((unhide K).trans k33)
   have z34 := k33.size
   clear k33
   go_wp2_with fail
   refine (markDy_wide (G0) (H0) _ (1) (by omega) (by omega) hq0 rg0).mono ?_
   rintro e w35 ⟨rfl, rm0, k35⟩
   replace r0 := r0.kept k35 (by omega)
   replace r1 := r1.kept k35 (by omega)
   replace rw0 := rw0.kept k35 (by omega)
   replace A0_0 := k35.cellOut (by dsimp only; omega) A0_0
   replace A0_1 := k35.cellOut (by dsimp only; omega) A0_1
   replace A0_2 := k35.cellOut (by dsimp only; omega) A0_2
   replace A1_0 := k35.cellOut (by dsimp only; omega) A1_0
   replace A1_1 := k35.cellOut (by dsimp only; omega) A1_1
   replace A1_2 := k35.cellOut (by dsimp only; omega) A1_2
   replace cw0_0 := k35.cellOut (by dsimp only; omega) cw0_0
   replace cw0_1 := k35.cellOut (by dsimp only; omega) cw0_1
   replace cw0_2 := k35.cellOut (by dsimp only; omega) cw0_2
   replace cx0_0 := k35.cellOut (by dsimp only; omega) cx0_0
   replace cx0_1 := k35.cellOut (by dsimp only; omega) cx0_1
   replace cx0_2 := k35.cellOut (by dsimp only; omega) cx0_2
   replace cx1_0 := k35.cellOut (by dsimp only; omega) cx1_0
   replace cx1_1 := k35.cellOut (by dsimp only; omega) cx1_1
   replace cx1_2 := k35.cellOut (by dsimp only; omega) cx1_2
   replace cg0_0 := k35.cellOut (by dsimp only; omega) cg0_0
   replace cg0_1 := k35.cellOut (by dsimp only; omega) cg0_1
   replace cg0_2 := k35.cellOut (by dsimp only; omega) cg0_2
   replace K := hide ((unhide K).wide k35 (by omega))
   have z35 := k35.size
   clear k35 rg0
   go_wp2_with fail
   refine (heldDy_any (G0) (H0) _ (1) (by omega) (by omega) hq0 rm0).mono ?_
   rintro e w36 ⟨rfl, k36⟩
   replace r0 := r0.kp k36
   replace r1 := r1.kp k36
   replace rw0 := rw0.kp k36
   replace rm0 := rm0.kp k36
   replace A0_0 := k36.cell0 A0_0
   replace A0_1 := k36.cell0 A0_1
   replace A0_2 := k36.cell0 A0_2
   replace A1_0 := k36.cell0 A1_0
   replace A1_1 := k36.cell0 A1_1
   replace A1_2 := k36.cell0 A1_2
   replace cw0_0 := k36.cell0 cw0_0
   replace cw0_1 := k36.cell0 cw0_1
   replace cw0_2 := k36.cell0 cw0_2
   replace cx0_0 := k36.cell0 cx0_0
   replace cx0_1 := k36.cell0 cx0_1
   replace cx0_2 := k36.cell0 cx0_2
   replace cx1_0 := k36.cell0 cx1_0
   replace cx1_1 := k36.cell0 cx1_1
   replace cx1_2 := k36.cell0 cx1_2
   replace cg0_0 := k36.cell0 cg0_0
   replace cg0_1 := k36.cell0 cg0_1
   replace cg0_2 := k36.cell0 cg0_2
   replace K := hide ((unhide K).trans k36)
   have z37 := k36.size
   clear k36
   have nq037 : ¬ (1 + (L0.length : Int)) < 0 := by omega
   go_upto_region 31 with fail
   go_cut [19, 20] (fun q0 q1 wx => ∃ X0 v0, q0 = .pointer (some ⟨X0, 0, none⟩) ∧ q1 = .bool B1 ∧ wx.cell? ⟨X0, 0, none⟩ = some (.bool G0) ∧ wx.cell? ⟨X0, 1, none⟩ = some (v0) ∧ wx.cell? ⟨X0, 2, none⟩ = some (.int .i64 H0) ∧ Row .i64 true w36.heap.size wx.heap.size wx v0 L0 ∧ w36.heap.size ≤ X0 ∧ X0 < wx.heap.size ∧ Kept 0 0 w36 wx)
   case first =>
    have kw := Kept.refl 0 0 w36
    have kd := (Kept.refl 0 0 w36).drew
    replace r0 := r0.kp kd
    replace r1 := r1.kp kd
    replace rw0 := rw0.kp kd
    replace rm0 := rm0.kp kd
    replace kw := kw.trans kd
    replace A0_0 := kd.cell0 A0_0
    replace A0_1 := kd.cell0 A0_1
    replace A0_2 := kd.cell0 A0_2
    replace A1_0 := kd.cell0 A1_0
    replace A1_1 := kd.cell0 A1_1
    replace A1_2 := kd.cell0 A1_2
    replace cw0_0 := kd.cell0 cw0_0
    replace cw0_1 := kd.cell0 cw0_1
    replace cw0_2 := kd.cell0 cw0_2
    replace cx0_0 := kd.cell0 cx0_0
    replace cx0_1 := kd.cell0 cx0_1
    replace cx0_2 := kd.cell0 cx0_2
    replace cx1_0 := kd.cell0 cx1_0
    replace cx1_1 := kd.cell0 cx1_1
    replace cx1_2 := kd.cell0 cx1_2
    replace cg0_0 := kd.cell0 cg0_0
    replace cg0_1 := kd.cell0 cg0_1
    replace cg0_2 := kd.cell0 cg0_2
    replace K := hide ((unhide K).trans kd)
    have z38 := kd.size
    clear kd
    refine wp_region_held_drew (S := (fun w' => w'.cell? ⟨w.heap.size, 0, none⟩ = some (.bool s0) ∧ w'.cell? ⟨w.heap.size, 1, none⟩ = some (.slice a0 z0.length c0) ∧ w'.cell? ⟨w.heap.size, 2, none⟩ = some (.int .i64 y0) ∧ w'.cell? ⟨w.heap.size + 1, 0, none⟩ = some (.bool s1) ∧ w'.cell? ⟨w.heap.size + 1, 1, none⟩ = some (.slice a1 z1.length c1) ∧ w'.cell? ⟨w.heap.size + 1, 2, none⟩ = some (.int .i64 y1))) (by kernel_rfl) ?_ (fun hH => ?_)
    ·exact ⟨A0_0, A0_1, A0_2, A1_0, A1_1, A1_2⟩
    generalize w36.drew = wd at *
    refine wpAnyH_take (i := 0) (v := .agg #[.bool s0, .slice a0 z0.length c0, .int .i64 y0]) rfl (by kernel_rfl) (by kernel_rfl) (by kernel_rfl) (fun _ _ _ h => h) (Or.inl ⟨by rfl, ?_⟩) hH ?_
    ·intro wq hSw
     try dsimp only at hSw
     go_simp
    try simp only [Act.put, zq1, zq2, zq3, zq4, zq5, zq6]
    refine wpAnyH_take (i := 2) (v := .agg #[.bool s1, .slice a1 z1.length c1, .int .i64 y1]) rfl (by kernel_rfl) (by kernel_rfl) (by kernel_rfl) (fun _ _ _ h => h) (Or.inl ⟨by rfl, ?_⟩) hH ?_
    ·intro wq hSw
     try dsimp only at hSw
     go_simp
    try simp only [Act.put, zq1, zq2, zq3, zq4, zq5, zq6]
    refine wpAnyH_take (i := 4) (v := .int .i64 p2) rfl (by kernel_rfl) (by kernel_rfl) (by kernel_rfl) (fun _ _ _ h => h) (Or.inl ⟨by rfl, ?_⟩) hH ?_
    ·intro wq hSw
     try dsimp only at hSw
     go_simp
    try simp only [Act.put, zq1, zq2, zq3, zq4, zq5, zq6]
    refine wpAnyH_take (i := 5) (v := .int .i64 p3) rfl (by kernel_rfl) (by kernel_rfl) (by kernel_rfl) (fun _ _ _ h => h) (Or.inl ⟨by rfl, ?_⟩) hH ?_
    ·intro wq hSw
     try dsimp only at hSw
     go_simp
    try simp only [Act.put, zq1, zq2, zq3, zq4, zq5, zq6]
    refine wpAnyH_ready (rs := [1, 10]) (by kernel_rfl) (by simp) ?_
    refine AllReadyH.cons rfl (fun KK hK => ?_) (AllReadyH.cons rfl (fun KK hK => ?_) AllReadyH.nil)
    ·simp only [zq1, zq2, zq3]
     rw [if_pos (by rfl)]
     refine wps1 6 (.tmp 103) _ rfl in_toD (.agg #[.bool s0, .slice a0 z0.length c0, .int .i64 y0]) rfl (toDy_any (s0) (y0) _ hn0 r0) ?_
     rintro e w39 ⟨v70, rfl, r70, k39⟩
     refine ⟨_, rfl, ?_⟩
     replace r0 := r0.kp k39
     replace r1 := r1.kp k39
     replace rw0 := rw0.kp k39
     replace rm0 := rm0.kp k39
     replace kw := kw.trans k39
     replace A0_0 := k39.cell0 A0_0
     replace A0_1 := k39.cell0 A0_1
     replace A0_2 := k39.cell0 A0_2
     replace A1_0 := k39.cell0 A1_0
     replace A1_1 := k39.cell0 A1_1
     replace A1_2 := k39.cell0 A1_2
     replace cw0_0 := k39.cell0 cw0_0
     replace cw0_1 := k39.cell0 cw0_1
     replace cw0_2 := k39.cell0 cw0_2
     replace cx0_0 := k39.cell0 cx0_0
     replace cx0_1 := k39.cell0 cx0_1
     replace cx0_2 := k39.cell0 cx0_2
     replace cx1_0 := k39.cell0 cx1_0
     replace cx1_1 := k39.cell0 cx1_1
     replace cx1_2 := k39.cell0 cx1_2
     replace cg0_0 := k39.cell0 cg0_0
     replace cg0_1 := k39.cell0 cg0_1
     replace cg0_2 := k39.cell0 cg0_2
     replace K := hide ((unhide K).trans k39)
     have z40 := k39.size
     clear k39
     clear hH
     refine hK.out _ _ ?_ (fun hH => ?_)
     ·exact ⟨A0_0, A0_1, A0_2, A1_0, A1_1, A1_2⟩
     clear hK KK
     try simp only [Act.put, zq1, zq2, zq3, zq4, zq5, zq6]
     refine wpAnyH_ready (rs := [3, 10]) (by kernel_rfl) (by simp) ?_
     refine AllReadyH.cons rfl (fun KK hK => ?_) (AllReadyH.cons rfl (fun KK hK => ?_) AllReadyH.nil)
     ·simp only [zq1, zq2, zq3]
      rw [if_pos (by rfl)]
      refine wps1 6 (.tmp 105) _ rfl in_toD (.agg #[.bool s1, .slice a1 z1.length c1, .int .i64 y1]) rfl (toDy_any (s1) (y1) _ hn1 r1) ?_
      rintro e w41 ⟨v71, rfl, r71, k41⟩
      refine ⟨_, rfl, ?_⟩
      replace r0 := r0.kp k41
      replace r1 := r1.kp k41
      replace rw0 := rw0.kp k41
      replace rm0 := rm0.kp k41
      replace r70 := r70.kp k41
      replace kw := kw.trans k41
      replace A0_0 := k41.cell0 A0_0
      replace A0_1 := k41.cell0 A0_1
      replace A0_2 := k41.cell0 A0_2
      replace A1_0 := k41.cell0 A1_0
      replace A1_1 := k41.cell0 A1_1
      replace A1_2 := k41.cell0 A1_2
      replace cw0_0 := k41.cell0 cw0_0
      replace cw0_1 := k41.cell0 cw0_1
      replace cw0_2 := k41.cell0 cw0_2
      replace cx0_0 := k41.cell0 cx0_0
      replace cx0_1 := k41.cell0 cx0_1
      replace cx0_2 := k41.cell0 cx0_2
      replace cx1_0 := k41.cell0 cx1_0
      replace cx1_1 := k41.cell0 cx1_1
      replace cx1_2 := k41.cell0 cx1_2
      replace cg0_0 := k41.cell0 cg0_0
      replace cg0_1 := k41.cell0 cg0_1
      replace cg0_2 := k41.cell0 cg0_2
      replace K := hide ((unhide K).trans k41)
      have z42 := k41.size
      clear k41
      clear hH
      refine hK.out _ _ ?_ (fun hH => ?_)
      ·exact ⟨A0_0, A0_1, A0_2, A1_0, A1_1, A1_2⟩
      clear hK KK
      try simp only [Act.put, zq1, zq2, zq3, zq4, zq5, zq6]
      refine wpAnyH_ready (rs := [6, 10]) (by kernel_rfl) (by simp) ?_
      refine AllReadyH.cons rfl (fun KK hK => ?_) (AllReadyH.cons rfl (fun KK hK => ?_) AllReadyH.nil)
      ·simp only [zq1, zq2, zq3]
       rw [if_pos (by rfl)]
       have mk := ddiv_impl s0 s1 y0 y1 gy0.1 gy0.2 gy1.1 gy1.2 p2 p3 w41 r70 r71 (T.kept (unhide K))
       simp only [unhide EB1, unhide EL0, unhide EH0, unhide EG0] at mk
       refine wps4 7 (.tmp 104) (.tmp 106) (.tmp 107) (.tmp 108) _ rfl in_impl_DyDiv (.agg #[.bool s0, v70, .int .i64 y0]) (.agg #[.bool s1, v71, .int .i64 y1]) (.int .i64 p2) (.int .i64 p3) rfl rfl rfl rfl mk ?_
       rintro e w43 ⟨v90, rfl, r90, k43⟩
       refine ⟨_, rfl, ?_⟩
       clear mk
       replace r0 := r0.kp k43
       replace r1 := r1.kp k43
       replace rw0 := rw0.kp k43
       replace rm0 := rm0.kp k43
       replace r70 := r70.kp k43
       replace r71 := r71.kp k43
       replace kw := kw.trans k43
       replace A0_0 := k43.cell0 A0_0
       replace A0_1 := k43.cell0 A0_1
       replace A0_2 := k43.cell0 A0_2
       replace A1_0 := k43.cell0 A1_0
       replace A1_1 := k43.cell0 A1_1
       replace A1_2 := k43.cell0 A1_2
       replace cw0_0 := k43.cell0 cw0_0
       replace cw0_1 := k43.cell0 cw0_1
       replace cw0_2 := k43.cell0 cw0_2
       replace cx0_0 := k43.cell0 cx0_0
       replace cx0_1 := k43.cell0 cx0_1
       replace cx0_2 := k43.cell0 cx0_2
       replace cx1_0 := k43.cell0 cx1_0
       replace cx1_1 := k43.cell0 cx1_1
       replace cx1_2 := k43.cell0 cx1_2
       replace cg0_0 := k43.cell0 cg0_0
       replace cg0_1 := k43.cell0 cg0_1
       replace cg0_2 := k43.cell0 cg0_2
       replace K := hide ((unhide K).trans k43)
       have z44 := k43.size
       obtain ⟨a90, d90, hv⟩ := Row.form' r90
       subst hv
       clear k43
       clear hH
       refine hK.out _ _ ?_ (fun hH => ?_)
       ·exact ⟨A0_0, A0_1, A0_2, A1_0, A1_1, A1_2⟩
       clear hK KK
       try simp only [Act.put, zq1, zq2, zq3, zq4, zq5, zq6]
       refine wpAnyH_take (i := 7) (v := .tuple #[.agg #[.bool G0, .slice a90 L0.length d90, .int .i64 H0], .bool B1]) rfl (by kernel_rfl) (by kernel_rfl) (by kernel_rfl) (fun _ _ _ h => h) (Or.inl ⟨by rfl, ?_⟩) hH ?_
       ·intro wq hSw
        try dsimp only at hSw
        go_simp
       try simp only [Act.put, zq1, zq2, zq3, zq4, zq5, zq6]
       refine wpAnyH_take (i := 8) (v := .agg #[.bool G0, .slice a90 L0.length d90, .int .i64 H0]) rfl (by kernel_rfl) (by kernel_rfl) (by kernel_rfl) (fun _ _ _ h => h) (Or.inl ⟨by rfl, ?_⟩) hH ?_
       ·intro wq hSw
        try dsimp only at hSw
        go_simp
       try simp only [Act.put, zq1, zq2, zq3, zq4, zq5, zq6]
       refine wpAnyH_take (i := 9) (v := .bool B1) rfl (by kernel_rfl) (by kernel_rfl) (by kernel_rfl) (fun _ _ _ h => h) (Or.inl ⟨by rfl, ?_⟩) hH ?_
       ·intro wq hSw
        try dsimp only at hSw
        go_simp
       try simp only [Act.put, zq1, zq2, zq3, zq4, zq5, zq6]
       refine wpAnyH_ready (rs := [10]) (by kernel_rfl) (by simp) ?_
       refine AllReadyH.cons rfl (fun KK hK => ?_) AllReadyH.nil
       ·simp only [zq1, zq2, zq3]
        rw [if_pos (by rfl)]
        go_simp
        have kn := (Kept.refl 0 0 w43).alloc (.cells #[.bool false, .slice none 0 0, .int .i64 0] 34)
        replace r0 := r0.kp kn
        replace r1 := r1.kp kn
        replace rw0 := rw0.kp kn
        replace rm0 := rm0.kp kn
        replace r70 := r70.kp kn
        replace r71 := r71.kp kn
        replace r90 := r90.kp kn
        replace kw := kw.trans kn
        replace A0_0 := kn.cell0 A0_0
        replace A0_1 := kn.cell0 A0_1
        replace A0_2 := kn.cell0 A0_2
        replace A1_0 := kn.cell0 A1_0
        replace A1_1 := kn.cell0 A1_1
        replace A1_2 := kn.cell0 A1_2
        replace cw0_0 := kn.cell0 cw0_0
        replace cw0_1 := kn.cell0 cw0_1
        replace cw0_2 := kn.cell0 cw0_2
        replace cx0_0 := kn.cell0 cx0_0
        replace cx0_1 := kn.cell0 cx0_1
        replace cx0_2 := kn.cell0 cx0_2
        replace cx1_0 := kn.cell0 cx1_0
        replace cx1_1 := kn.cell0 cx1_1
        replace cx1_2 := kn.cell0 cx1_2
        replace cg0_0 := kn.cell0 cg0_0
        replace cg0_1 := kn.cell0 cg0_1
        replace cg0_2 := kn.cell0 cg0_2
        replace K := hide ((unhide K).trans kn)
        have z46 := kn.size
        clear kn
        have szx0_ : w43.heap.size < (w43.alloc (.cells #[.bool false, .slice none 0 0, .int .i64 0] 34)).heap.size := by simp
        have x0_0 : (w43.alloc (.cells #[.bool false, .slice none 0 0, .int .i64 0] 34)).cell? ⟨w43.heap.size, 0, none⟩ = some (.bool false) := new_cell2 _ _ _ _ _ _ rfl rfl
        have x0_f0 : (w43.alloc (.cells #[.bool false, .slice none 0 0, .int .i64 0] 34)).frozen? ⟨w43.heap.size, 0, none⟩ = false := new_loose2 _ _ _ _ _ rfl
        have x0_1 : (w43.alloc (.cells #[.bool false, .slice none 0 0, .int .i64 0] 34)).cell? ⟨w43.heap.size, 1, none⟩ = some (.slice none 0 0) := new_cell2 _ _ _ _ _ _ rfl rfl
        have x0_f1 : (w43.alloc (.cells #[.bool false, .slice none 0 0, .int .i64 0] 34)).frozen? ⟨w43.heap.size, 1, none⟩ = false := new_loose2 _ _ _ _ _ rfl
        have x0_2 : (w43.alloc (.cells #[.bool false, .slice none 0 0, .int .i64 0] 34)).cell? ⟨w43.heap.size, 2, none⟩ = some (.int .i64 0) := new_cell2 _ _ _ _ _ _ rfl rfl
        have x0_f2 : (w43.alloc (.cells #[.bool false, .slice none 0 0, .int .i64 0] 34)).frozen? ⟨w43.heap.size, 2, none⟩ = false := new_loose2 _ _ _ _ _ rfl
        clear hH
        refine hK.out _ _ ?_ (fun hH => ?_)
        ·exact ⟨A0_0, A0_1, A0_2, A1_0, A1_1, A1_2⟩
        clear hK KK
        try simp only [Act.put, zq1, zq2, zq3, zq4, zq5, zq6]
        generalize w43.alloc (.cells #[.bool false, .slice none 0 0, .int .i64 0] 34) = w45 at *
        refine wpAnyH_ready (rs := [11]) (by kernel_rfl) (by simp) ?_
        refine AllReadyH.cons rfl (fun KK hK => ?_) AllReadyH.nil
        simp only [zq1, zq2, zq3]
        rw [if_pos (by rfl)]
        go_simp
        clear hH
        refine hK.out _ _ ?_ (fun hH => ?_)
        ·exact ⟨(cw3 (by have := unhide S0; dsimp only; omega) A0_0), (cw3 (by have := unhide S0; dsimp only; omega) A0_1), (cw3 (by have := unhide S0; dsimp only; omega) A0_2), (cw3 (by have := unhide S0; dsimp only; omega) A1_0), (cw3 (by have := unhide S0; dsimp only; omega) A1_1), (cw3 (by have := unhide S0; dsimp only; omega) A1_2)⟩
        clear hK KK
        try simp only [Act.put, zq1, zq2, zq3, zq4, zq5, zq6]
        refine wpAnyH_take (i := 12) (v := .bool B1) rfl (by kernel_rfl) (by kernel_rfl) (by kernel_rfl) (fun _ _ _ h => h) (Or.inl ⟨by rfl, ?_⟩) hH ?_
        ·intro wq hSw
         try dsimp only at hSw
         go_simp
        try simp only [Act.put, zq1, zq2, zq3, zq4, zq5, zq6]
        refine wpAnyH_done (by kernel_rfl) ?_ _
        clear hH
        go_wp2_with fail
        go_meet
        exact ⟨_, _, rfl, rfl, law_setD G0 H0 kw x0_0 x0_1 x0_2 r90 (by omega) (by omega) (by omega)⟩
      ·simp only [zq1, zq2, zq3]
       rw [if_pos (by rfl)]
       go_simp
       have kn := (Kept.refl 0 0 w41).alloc (.cells #[.bool false, .slice none 0 0, .int .i64 0] 34)
       replace r0 := r0.kp kn
       replace r1 := r1.kp kn
       replace rw0 := rw0.kp kn
       replace rm0 := rm0.kp kn
       replace r70 := r70.kp kn
       replace r71 := r71.kp kn
       replace kw := kw.trans kn
       replace A0_0 := kn.cell0 A0_0
       replace A0_1 := kn.cell0 A0_1
       replace A0_2 := kn.cell0 A0_2
       replace A1_0 := kn.cell0 A1_0
       replace A1_1 := kn.cell0 A1_1
       replace A1_2 := kn.cell0 A1_2
       replace cw0_0 := kn.cell0 cw0_0
       replace cw0_1 := kn.cell0 cw0_1
       replace cw0_2 := kn.cell0 cw0_2
       replace cx0_0 := kn.cell0 cx0_0
       replace cx0_1 := kn.cell0 cx0_1
       replace cx0_2 := kn.cell0 cx0_2
       replace cx1_0 := kn.cell0 cx1_0
       replace cx1_1 := kn.cell0 cx1_1
       replace cx1_2 := kn.cell0 cx1_2
       replace cg0_0 := kn.cell0 cg0_0
       replace cg0_1 := kn.cell0 cg0_1
       replace cg0_2 := kn.cell0 cg0_2
       replace K := hide ((unhide K).trans kn)
       have z44 := kn.size
       clear kn
       have szx0_ : w41.heap.size < (w41.alloc (.cells #[.bool false, .slice none 0 0, .int .i64 0] 34)).heap.size := by simp
       have x0_0 : (w41.alloc (.cells #[.bool false, .slice none 0 0, .int .i64 0] 34)).cell? ⟨w41.heap.size, 0, none⟩ = some (.bool false) := new_cell2 _ _ _ _ _ _ rfl rfl
       have x0_f0 : (w41.alloc (.cells #[.bool false, .slice none 0 0, .int .i64 0] 34)).frozen? ⟨w41.heap.size, 0, none⟩ = false := new_loose2 _ _ _ _ _ rfl
       have x0_1 : (w41.alloc (.cells #[.bool false, .slice none 0 0, .int .i64 0] 34)).cell? ⟨w41.heap.size, 1, none⟩ = some (.slice none 0 0) := new_cell2 _ _ _ _ _ _ rfl rfl
       have x0_f1 : (w41.alloc (.cells #[.bool false, .slice none 0 0, .int .i64 0] 34)).frozen? ⟨w41.heap.size, 1, none⟩ = false := new_loose2 _ _ _ _ _ rfl
       have x0_2 : (w41.alloc (.cells #[.bool false, .slice none 0 0, .int .i64 0] 34)).cell? ⟨w41.heap.size, 2, none⟩ = some (.int .i64 0) := new_cell2 _ _ _ _ _ _ rfl rfl
       have x0_f2 : (w41.alloc (.cells #[.bool false, .slice none 0 0, .int .i64 0] 34)).frozen? ⟨w41.heap.size, 2, none⟩ = false := new_loose2 _ _ _ _ _ rfl
       clear hH
       refine hK.out _ _ ?_ (fun hH => ?_)
       ·exact ⟨A0_0, A0_1, A0_2, A1_0, A1_1, A1_2⟩
       clear hK KK
       try simp only [Act.put, zq1, zq2, zq3, zq4, zq5, zq6]
       generalize w41.alloc (.cells #[.bool false, .slice none 0 0, .int .i64 0] 34) = w43 at *
       refine wpAnyH_ready (rs := [6]) (by kernel_rfl) (by simp) ?_
       refine AllReadyH.cons rfl (fun KK hK => ?_) AllReadyH.nil
       ·simp only [zq1, zq2, zq3]
        rw [if_pos (by rfl)]
        have mk := ddiv_impl s0 s1 y0 y1 gy0.1 gy0.2 gy1.1 gy1.2 p2 p3 w43 r70 r71 (T.kept (unhide K))
        simp only [unhide EB1, unhide EL0, unhide EH0, unhide EG0] at mk
        refine wps4 7 (.tmp 104) (.tmp 106) (.tmp 107) (.tmp 108) _ rfl in_impl_DyDiv (.agg #[.bool s0, v70, .int .i64 y0]) (.agg #[.bool s1, v71, .int .i64 y1]) (.int .i64 p2) (.int .i64 p3) rfl rfl rfl rfl mk ?_
        rintro e w45 ⟨v90, rfl, r90, k45⟩
        refine ⟨_, rfl, ?_⟩
        clear mk
        replace r0 := r0.kp k45
        replace r1 := r1.kp k45
        replace rw0 := rw0.kp k45
        replace rm0 := rm0.kp k45
        replace r70 := r70.kp k45
        replace r71 := r71.kp k45
        replace kw := kw.trans k45
        replace x0_f0 := k45.loose0 (zbl x0_0) x0_f0
        replace x0_f1 := k45.loose0 (zbl x0_1) x0_f1
        replace x0_f2 := k45.loose0 (zbl x0_2) x0_f2
        replace A0_0 := k45.cell0 A0_0
        replace A0_1 := k45.cell0 A0_1
        replace A0_2 := k45.cell0 A0_2
        replace A1_0 := k45.cell0 A1_0
        replace A1_1 := k45.cell0 A1_1
        replace A1_2 := k45.cell0 A1_2
        replace cw0_0 := k45.cell0 cw0_0
        replace cw0_1 := k45.cell0 cw0_1
        replace cw0_2 := k45.cell0 cw0_2
        replace cx0_0 := k45.cell0 cx0_0
        replace cx0_1 := k45.cell0 cx0_1
        replace cx0_2 := k45.cell0 cx0_2
        replace cx1_0 := k45.cell0 cx1_0
        replace cx1_1 := k45.cell0 cx1_1
        replace cx1_2 := k45.cell0 cx1_2
        replace cg0_0 := k45.cell0 cg0_0
        replace cg0_1 := k45.cell0 cg0_1
        replace cg0_2 := k45.cell0 cg0_2
        replace x0_0 := k45.cell0 x0_0
        replace x0_1 := k45.cell0 x0_1
        replace x0_2 := k45.cell0 x0_2
        replace K := hide ((unhide K).trans k45)
        have z46 := k45.size
        obtain ⟨a90, d90, hv⟩ := Row.form' r90
        subst hv
        clear k45
        clear hH
        refine hK.out _ _ ?_ (fun hH => ?_)
        ·exact ⟨A0_0, A0_1, A0_2, A1_0, A1_1, A1_2⟩
        clear hK KK
        try simp only [Act.put, zq1, zq2, zq3, zq4, zq5, zq6]
        refine wpAnyH_take (i := 7) (v := .tuple #[.agg #[.bool G0, .slice a90 L0.length d90, .int .i64 H0], .bool B1]) rfl (by kernel_rfl) (by kernel_rfl) (by kernel_rfl) (fun _ _ _ h => h) (Or.inl ⟨by rfl, ?_⟩) hH ?_
        ·intro wq hSw
         try dsimp only at hSw
         go_simp
        try simp only [Act.put, zq1, zq2, zq3, zq4, zq5, zq6]
        refine wpAnyH_take (i := 8) (v := .agg #[.bool G0, .slice a90 L0.length d90, .int .i64 H0]) rfl (by kernel_rfl) (by kernel_rfl) (by kernel_rfl) (fun _ _ _ h => h) (Or.inl ⟨by rfl, ?_⟩) hH ?_
        ·intro wq hSw
         try dsimp only at hSw
         go_simp
        try simp only [Act.put, zq1, zq2, zq3, zq4, zq5, zq6]
        refine wpAnyH_take (i := 9) (v := .bool B1) rfl (by kernel_rfl) (by kernel_rfl) (by kernel_rfl) (fun _ _ _ h => h) (Or.inl ⟨by rfl, ?_⟩) hH ?_
        ·intro wq hSw
         try dsimp only at hSw
         go_simp
        try simp only [Act.put, zq1, zq2, zq3, zq4, zq5, zq6]
        refine wpAnyH_ready (rs := [11]) (by kernel_rfl) (by simp) ?_
        refine AllReadyH.cons rfl (fun KK hK => ?_) AllReadyH.nil
        simp only [zq1, zq2, zq3]
        rw [if_pos (by rfl)]
        go_simp
        clear hH
        refine hK.out _ _ ?_ (fun hH => ?_)
        ·exact ⟨(cw3 (by have := unhide S0; dsimp only; omega) A0_0), (cw3 (by have := unhide S0; dsimp only; omega) A0_1), (cw3 (by have := unhide S0; dsimp only; omega) A0_2), (cw3 (by have := unhide S0; dsimp only; omega) A1_0), (cw3 (by have := unhide S0; dsimp only; omega) A1_1), (cw3 (by have := unhide S0; dsimp only; omega) A1_2)⟩
        clear hK KK
        try simp only [Act.put, zq1, zq2, zq3, zq4, zq5, zq6]
        refine wpAnyH_take (i := 12) (v := .bool B1) rfl (by kernel_rfl) (by kernel_rfl) (by kernel_rfl) (fun _ _ _ h => h) (Or.inl ⟨by rfl, ?_⟩) hH ?_
        ·intro wq hSw
         try dsimp only at hSw
         go_simp
        try simp only [Act.put, zq1, zq2, zq3, zq4, zq5, zq6]
        refine wpAnyH_done (by kernel_rfl) ?_ _
        clear hH
        go_wp2_with fail
        go_meet
        exact ⟨_, _, rfl, rfl, law_setD G0 H0 kw x0_0 x0_1 x0_2 r90 (by omega) (by omega) (by omega)⟩
     ·simp only [zq1, zq2, zq3]
      rw [if_pos (by rfl)]
      go_simp
      have kn := (Kept.refl 0 0 w39).alloc (.cells #[.bool false, .slice none 0 0, .int .i64 0] 34)
      replace r0 := r0.kp kn
      replace r1 := r1.kp kn
      replace rw0 := rw0.kp kn
      replace rm0 := rm0.kp kn
      replace r70 := r70.kp kn
      replace kw := kw.trans kn
      replace A0_0 := kn.cell0 A0_0
      replace A0_1 := kn.cell0 A0_1
      replace A0_2 := kn.cell0 A0_2
      replace A1_0 := kn.cell0 A1_0
      replace A1_1 := kn.cell0 A1_1
      replace A1_2 := kn.cell0 A1_2
      replace cw0_0 := kn.cell0 cw0_0
      replace cw0_1 := kn.cell0 cw0_1
      replace cw0_2 := kn.cell0 cw0_2
      replace cx0_0 := kn.cell0 cx0_0
      replace cx0_1 := kn.cell0 cx0_1
      replace cx0_2 := kn.cell0 cx0_2
      replace cx1_0 := kn.cell0 cx1_0
      replace cx1_1 := kn.cell0 cx1_1
      replace cx1_2 := kn.cell0 cx1_2
      replace cg0_0 := kn.cell0 cg0_0
      replace cg0_1 := kn.cell0 cg0_1
      replace cg0_2 := kn.cell0 cg0_2
      replace K := hide ((unhide K).trans kn)
      have z42 := kn.size
      clear kn
      have szx0_ : w39.heap.size < (w39.alloc (.cells #[.bool false, .slice none 0 0, .int .i64 0] 34)).heap.size := by simp
      have x0_0 : (w39.alloc (.cells #[.bool false, .slice none 0 0, .int .i64 0] 34)).cell? ⟨w39.heap.size, 0, none⟩ = some (.bool false) := new_cell2 _ _ _ _ _ _ rfl rfl
      have x0_f0 : (w39.alloc (.cells #[.bool false, .slice none 0 0, .int .i64 0] 34)).frozen? ⟨w39.heap.size, 0, none⟩ = false := new_loose2 _ _ _ _ _ rfl
      have x0_1 : (w39.alloc (.cells #[.bool false, .slice none 0 0, .int .i64 0] 34)).cell? ⟨w39.heap.size, 1, none⟩ = some (.slice none 0 0) := new_cell2 _ _ _ _ _ _ rfl rfl
      have x0_f1 : (w39.alloc (.cells #[.bool false, .slice none 0 0, .int .i64 0] 34)).frozen? ⟨w39.heap.size, 1, none⟩ = false := new_loose2 _ _ _ _ _ rfl
      have x0_2 : (w39.alloc (.cells #[.bool false, .slice none 0 0, .int .i64 0] 34)).cell? ⟨w39.heap.size, 2, none⟩ = some (.int .i64 0) := new_cell2 _ _ _ _ _ _ rfl rfl
      have x0_f2 : (w39.alloc (.cells #[.bool false, .slice none 0 0, .int .i64 0] 34)).frozen? ⟨w39.heap.size, 2, none⟩ = false := new_loose2 _ _ _ _ _ rfl
      clear hH
      refine hK.out _ _ ?_ (fun hH => ?_)
      ·exact ⟨A0_0, A0_1, A0_2, A1_0, A1_1, A1_2⟩
      clear hK KK
      try simp only [Act.put, zq1, zq2, zq3, zq4, zq5, zq6]
      generalize w39.alloc (.cells #[.bool false, .slice none 0 0, .int .i64 0] 34) = w41 at *
      refine wpAnyH_ready (rs := [3]) (by kernel_rfl) (by simp) ?_
      refine AllReadyH.cons rfl (fun KK hK => ?_) AllReadyH.nil
      ·simp only [zq1, zq2, zq3]
       rw [if_pos (by rfl)]
       refine wps1 6 (.tmp 105) _ rfl in_toD (.agg #[.bool s1, .slice a1 z1.length c1, .int .i64 y1]) rfl (toDy_any (s1) (y1) _ hn1 r1) ?_
       rintro e w43 ⟨v71, rfl, r71, k43⟩
       refine ⟨_, rfl, ?_⟩
       replace r0 := r0.kp k43
       replace r1 := r1.kp k43
       replace rw0 := rw0.kp k43
       replace rm0 := rm0.kp k43
       replace r70 := r70.kp k43
       replace kw := kw.trans k43
       replace x0_f0 := k43.loose0 (zbl x0_0) x0_f0
       replace x0_f1 := k43.loose0 (zbl x0_1) x0_f1
       replace x0_f2 := k43.loose0 (zbl x0_2) x0_f2
       replace A0_0 := k43.cell0 A0_0
       replace A0_1 := k43.cell0 A0_1
       replace A0_2 := k43.cell0 A0_2
       replace A1_0 := k43.cell0 A1_0
       replace A1_1 := k43.cell0 A1_1
       replace A1_2 := k43.cell0 A1_2
       replace cw0_0 := k43.cell0 cw0_0
       replace cw0_1 := k43.cell0 cw0_1
       replace cw0_2 := k43.cell0 cw0_2
       replace cx0_0 := k43.cell0 cx0_0
       replace cx0_1 := k43.cell0 cx0_1
       replace cx0_2 := k43.cell0 cx0_2
       replace cx1_0 := k43.cell0 cx1_0
       replace cx1_1 := k43.cell0 cx1_1
       replace cx1_2 := k43.cell0 cx1_2
       replace cg0_0 := k43.cell0 cg0_0
       replace cg0_1 := k43.cell0 cg0_1
       replace cg0_2 := k43.cell0 cg0_2
       replace x0_0 := k43.cell0 x0_0
       replace x0_1 := k43.cell0 x0_1
       replace x0_2 := k43.cell0 x0_2
       replace K := hide ((unhide K).trans k43)
       have z44 := k43.size
       clear k43
       clear hH
       refine hK.out _ _ ?_ (fun hH => ?_)
       ·exact ⟨A0_0, A0_1, A0_2, A1_0, A1_1, A1_2⟩
       clear hK KK
       try simp only [Act.put, zq1, zq2, zq3, zq4, zq5, zq6]
       refine wpAnyH_ready (rs := [6]) (by kernel_rfl) (by simp) ?_
       refine AllReadyH.cons rfl (fun KK hK => ?_) AllReadyH.nil
       ·simp only [zq1, zq2, zq3]
        rw [if_pos (by rfl)]
        have mk := ddiv_impl s0 s1 y0 y1 gy0.1 gy0.2 gy1.1 gy1.2 p2 p3 w43 r70 r71 (T.kept (unhide K))
        simp only [unhide EB1, unhide EL0, unhide EH0, unhide EG0] at mk
        refine wps4 7 (.tmp 104) (.tmp 106) (.tmp 107) (.tmp 108) _ rfl in_impl_DyDiv (.agg #[.bool s0, v70, .int .i64 y0]) (.agg #[.bool s1, v71, .int .i64 y1]) (.int .i64 p2) (.int .i64 p3) rfl rfl rfl rfl mk ?_
        rintro e w45 ⟨v90, rfl, r90, k45⟩
        refine ⟨_, rfl, ?_⟩
        clear mk
        replace r0 := r0.kp k45
        replace r1 := r1.kp k45
        replace rw0 := rw0.kp k45
        replace rm0 := rm0.kp k45
        replace r70 := r70.kp k45
        replace r71 := r71.kp k45
        replace kw := kw.trans k45
        replace x0_f0 := k45.loose0 (zbl x0_0) x0_f0
        replace x0_f1 := k45.loose0 (zbl x0_1) x0_f1
        replace x0_f2 := k45.loose0 (zbl x0_2) x0_f2
        replace A0_0 := k45.cell0 A0_0
        replace A0_1 := k45.cell0 A0_1
        replace A0_2 := k45.cell0 A0_2
        replace A1_0 := k45.cell0 A1_0
        replace A1_1 := k45.cell0 A1_1
        replace A1_2 := k45.cell0 A1_2
        replace cw0_0 := k45.cell0 cw0_0
        replace cw0_1 := k45.cell0 cw0_1
        replace cw0_2 := k45.cell0 cw0_2
        replace cx0_0 := k45.cell0 cx0_0
        replace cx0_1 := k45.cell0 cx0_1
        replace cx0_2 := k45.cell0 cx0_2
        replace cx1_0 := k45.cell0 cx1_0
        replace cx1_1 := k45.cell0 cx1_1
        replace cx1_2 := k45.cell0 cx1_2
        replace cg0_0 := k45.cell0 cg0_0
        replace cg0_1 := k45.cell0 cg0_1
        replace cg0_2 := k45.cell0 cg0_2
        replace x0_0 := k45.cell0 x0_0
        replace x0_1 := k45.cell0 x0_1
        replace x0_2 := k45.cell0 x0_2
        replace K := hide ((unhide K).trans k45)
        have z46 := k45.size
        obtain ⟨a90, d90, hv⟩ := Row.form' r90
        subst hv
        clear k45
        clear hH
        refine hK.out _ _ ?_ (fun hH => ?_)
        ·exact ⟨A0_0, A0_1, A0_2, A1_0, A1_1, A1_2⟩
        clear hK KK
        try simp only [Act.put, zq1, zq2, zq3, zq4, zq5, zq6]
        refine wpAnyH_take (i := 7) (v := .tuple #[.agg #[.bool G0, .slice a90 L0.length d90, .int .i64 H0], .bool B1]) rfl (by kernel_rfl) (by kernel_rfl) (by kernel_rfl) (fun _ _ _ h => h) (Or.inl ⟨by rfl, ?_⟩) hH ?_
        ·intro wq hSw
         try dsimp only at hSw
         go_simp
        try simp only [Act.put, zq1, zq2, zq3, zq4, zq5, zq6]
        refine wpAnyH_take (i := 8) (v := .agg #[.bool G0, .slice a90 L0.length d90, .int .i64 H0]) rfl (by kernel_rfl) (by kernel_rfl) (by kernel_rfl) (fun _ _ _ h => h) (Or.inl ⟨by rfl, ?_⟩) hH ?_
        ·intro wq hSw
         try dsimp only at hSw
         go_simp
        try simp only [Act.put, zq1, zq2, zq3, zq4, zq5, zq6]
        refine wpAnyH_take (i := 9) (v := .bool B1) rfl (by kernel_rfl) (by kernel_rfl) (by kernel_rfl) (fun _ _ _ h => h) (Or.inl ⟨by rfl, ?_⟩) hH ?_
        ·intro wq hSw
         try dsimp only at hSw
         go_simp
        try simp only [Act.put, zq1, zq2, zq3, zq4, zq5, zq6]
        refine wpAnyH_ready (rs := [11]) (by kernel_rfl) (by simp) ?_
        refine AllReadyH.cons rfl (fun KK hK => ?_) AllReadyH.nil
        simp only [zq1, zq2, zq3]
        rw [if_pos (by rfl)]
        go_simp
        clear hH
        refine hK.out _ _ ?_ (fun hH => ?_)
        ·exact ⟨(cw3 (by have := unhide S0; dsimp only; omega) A0_0), (cw3 (by have := unhide S0; dsimp only; omega) A0_1), (cw3 (by have := unhide S0; dsimp only; omega) A0_2), (cw3 (by have := unhide S0; dsimp only; omega) A1_0), (cw3 (by have := unhide S0; dsimp only; omega) A1_1), (cw3 (by have := unhide S0; dsimp only; omega) A1_2)⟩
        clear hK KK
        try simp only [Act.put, zq1, zq2, zq3, zq4, zq5, zq6]
        refine wpAnyH_take (i := 12) (v := .bool B1) rfl (by kernel_rfl) (by kernel_rfl) (by kernel_rfl) (fun _ _ _ h => h) (Or.inl ⟨by rfl, ?_⟩) hH ?_
        ·intro wq hSw
         try dsimp only at hSw
         go_simp
        try simp only [Act.put, zq1, zq2, zq3, zq4, zq5, zq6]
        refine wpAnyH_done (by kernel_rfl) ?_ _
        clear hH
        go_wp2_with fail
        go_meet
        exact ⟨_, _, rfl, rfl, law_setD G0 H0 kw x0_0 x0_1 x0_2 r90 (by omega) (by omega) (by omega)⟩
    ·simp only [zq1, zq2, zq3]
     rw [if_pos (by rfl)]
     go_simp
     have kn := (Kept.refl 0 0 wd).alloc (.cells #[.bool false, .slice none 0 0, .int .i64 0] 34)
     replace r0 := r0.kp kn
     replace r1 := r1.kp kn
     replace rw0 := rw0.kp kn
     replace rm0 := rm0.kp kn
     replace kw := kw.trans kn
     replace A0_0 := kn.cell0 A0_0
     replace A0_1 := kn.cell0 A0_1
     replace A0_2 := kn.cell0 A0_2
     replace A1_0 := kn.cell0 A1_0
     replace A1_1 := kn.cell0 A1_1
     replace A1_2 := kn.cell0 A1_2
     replace cw0_0 := kn.cell0 cw0_0
     replace cw0_1 := kn.cell0 cw0_1
     replace cw0_2 := kn.cell0 cw0_2
     replace cx0_0 := kn.cell0 cx0_0
     replace cx0_1 := kn.cell0 cx0_1
     replace cx0_2 := kn.cell0 cx0_2
     replace cx1_0 := kn.cell0 cx1_0
     replace cx1_1 := kn.cell0 cx1_1
     replace cx1_2 := kn.cell0 cx1_2
     replace cg0_0 := kn.cell0 cg0_0
     replace cg0_1 := kn.cell0 cg0_1
     replace cg0_2 := kn.cell0 cg0_2
     replace K := hide ((unhide K).trans kn)
     have z40 := kn.size
     clear kn
     have szx0_ : wd.heap.size < (wd.alloc (.cells #[.bool false, .slice none 0 0, .int .i64 0] 34)).heap.size := by simp
     have x0_0 : (wd.alloc (.cells #[.bool false, .slice none 0 0, .int .i64 0] 34)).cell? ⟨wd.heap.size, 0, none⟩ = some (.bool false) := new_cell2 _ _ _ _ _ _ rfl rfl
     have x0_f0 : (wd.alloc (.cells #[.bool false, .slice none 0 0, .int .i64 0] 34)).frozen? ⟨wd.heap.size, 0, none⟩ = false := new_loose2 _ _ _ _ _ rfl
     have x0_1 : (wd.alloc (.cells #[.bool false, .slice none 0 0, .int .i64 0] 34)).cell? ⟨wd.heap.size, 1, none⟩ = some (.slice none 0 0) := new_cell2 _ _ _ _ _ _ rfl rfl
     have x0_f1 : (wd.alloc (.cells #[.bool false, .slice none 0 0, .int .i64 0] 34)).frozen? ⟨wd.heap.size, 1, none⟩ = false := new_loose2 _ _ _ _ _ rfl
     have x0_2 : (wd.alloc (.cells #[.bool false, .slice none 0 0, .int .i64 0] 34)).cell? ⟨wd.heap.size, 2, none⟩ = some (.int .i64 0) := new_cell2 _ _ _ _ _ _ rfl rfl
     have x0_f2 : (wd.alloc (.cells #[.bool false, .slice none 0 0, .int .i64 0] 34)).frozen? ⟨wd.heap.size, 2, none⟩ = false := new_loose2 _ _ _ _ _ rfl
     clear hH
     refine hK.out _ _ ?_ (fun hH => ?_)
     ·exact ⟨A0_0, A0_1, A0_2, A1_0, A1_1, A1_2⟩
     clear hK KK
     try simp only [Act.put, zq1, zq2, zq3, zq4, zq5, zq6]
     generalize wd.alloc (.cells #[.bool false, .slice none 0 0, .int .i64 0] 34) = w39 at *
     refine wpAnyH_ready (rs := [1]) (by kernel_rfl) (by simp) ?_
     refine AllReadyH.cons rfl (fun KK hK => ?_) AllReadyH.nil
     ·simp only [zq1, zq2, zq3]
      rw [if_pos (by rfl)]
      refine wps1 6 (.tmp 103) _ rfl in_toD (.agg #[.bool s0, .slice a0 z0.length c0, .int .i64 y0]) rfl (toDy_any (s0) (y0) _ hn0 r0) ?_
      rintro e w41 ⟨v70, rfl, r70, k41⟩
      refine ⟨_, rfl, ?_⟩
      replace r0 := r0.kp k41
      replace r1 := r1.kp k41
      replace rw0 := rw0.kp k41
      replace rm0 := rm0.kp k41
      replace kw := kw.trans k41
      replace x0_f0 := k41.loose0 (zbl x0_0) x0_f0
      replace x0_f1 := k41.loose0 (zbl x0_1) x0_f1
      replace x0_f2 := k41.loose0 (zbl x0_2) x0_f2
      replace A0_0 := k41.cell0 A0_0
      replace A0_1 := k41.cell0 A0_1
      replace A0_2 := k41.cell0 A0_2
      replace A1_0 := k41.cell0 A1_0
      replace A1_1 := k41.cell0 A1_1
      replace A1_2 := k41.cell0 A1_2
      replace cw0_0 := k41.cell0 cw0_0
      replace cw0_1 := k41.cell0 cw0_1
      replace cw0_2 := k41.cell0 cw0_2
      replace cx0_0 := k41.cell0 cx0_0
      replace cx0_1 := k41.cell0 cx0_1
      replace cx0_2 := k41.cell0 cx0_2
      replace cx1_0 := k41.cell0 cx1_0
      replace cx1_1 := k41.cell0 cx1_1
      replace cx1_2 := k41.cell0 cx1_2
      replace cg0_0 := k41.cell0 cg0_0
      replace cg0_1 := k41.cell0 cg0_1
      replace cg0_2 := k41.cell0 cg0_2
      replace x0_0 := k41.cell0 x0_0
      replace x0_1 := k41.cell0 x0_1
      replace x0_2 := k41.cell0 x0_2
      replace K := hide ((unhide K).trans k41)
      have z42 := k41.size
      clear k41
      clear hH
      refine hK.out _ _ ?_ (fun hH => ?_)
      ·exact ⟨A0_0, A0_1, A0_2, A1_0, A1_1, A1_2⟩
      clear hK KK
      try simp only [Act.put, zq1, zq2, zq3, zq4, zq5, zq6]
      refine wpAnyH_ready (rs := [3]) (by kernel_rfl) (by simp) ?_
      refine AllReadyH.cons rfl (fun KK hK => ?_) AllReadyH.nil
      ·simp only [zq1, zq2, zq3]
       rw [if_pos (by rfl)]
       refine wps1 6 (.tmp 105) _ rfl in_toD (.agg #[.bool s1, .slice a1 z1.length c1, .int .i64 y1]) rfl (toDy_any (s1) (y1) _ hn1 r1) ?_
       rintro e w43 ⟨v71, rfl, r71, k43⟩
       refine ⟨_, rfl, ?_⟩
       replace r0 := r0.kp k43
       replace r1 := r1.kp k43
       replace rw0 := rw0.kp k43
       replace rm0 := rm0.kp k43
       replace r70 := r70.kp k43
       replace kw := kw.trans k43
       replace x0_f0 := k43.loose0 (zbl x0_0) x0_f0
       replace x0_f1 := k43.loose0 (zbl x0_1) x0_f1
       replace x0_f2 := k43.loose0 (zbl x0_2) x0_f2
       replace A0_0 := k43.cell0 A0_0
       replace A0_1 := k43.cell0 A0_1
       replace A0_2 := k43.cell0 A0_2
       replace A1_0 := k43.cell0 A1_0
       replace A1_1 := k43.cell0 A1_1
       replace A1_2 := k43.cell0 A1_2
       replace cw0_0 := k43.cell0 cw0_0
       replace cw0_1 := k43.cell0 cw0_1
       replace cw0_2 := k43.cell0 cw0_2
       replace cx0_0 := k43.cell0 cx0_0
       replace cx0_1 := k43.cell0 cx0_1
       replace cx0_2 := k43.cell0 cx0_2
       replace cx1_0 := k43.cell0 cx1_0
       replace cx1_1 := k43.cell0 cx1_1
       replace cx1_2 := k43.cell0 cx1_2
       replace cg0_0 := k43.cell0 cg0_0
       replace cg0_1 := k43.cell0 cg0_1
       replace cg0_2 := k43.cell0 cg0_2
       replace x0_0 := k43.cell0 x0_0
       replace x0_1 := k43.cell0 x0_1
       replace x0_2 := k43.cell0 x0_2
       replace K := hide ((unhide K).trans k43)
       have z44 := k43.size
       clear k43
       clear hH
       refine hK.out _ _ ?_ (fun hH => ?_)
       ·exact ⟨A0_0, A0_1, A0_2, A1_0, A1_1, A1_2⟩
       clear hK KK
       try simp only [Act.put, zq1, zq2, zq3, zq4, zq5, zq6]
       refine wpAnyH_ready (rs := [6]) (by kernel_rfl) (by simp) ?_
       refine AllReadyH.cons rfl (fun KK hK => ?_) AllReadyH.nil
       ·simp only [zq1, zq2, zq3]
        rw [if_pos (by rfl)]
        have mk := ddiv_impl s0 s1 y0 y1 gy0.1 gy0.2 gy1.1 gy1.2 p2 p3 w43 r70 r71 (T.kept (unhide K))
        simp only [unhide EB1, unhide EL0, unhide EH0, unhide EG0] at mk
        refine wps4 7 (.tmp 104) (.tmp 106) (.tmp 107) (.tmp 108) _ rfl in_impl_DyDiv (.agg #[.bool s0, v70, .int .i64 y0]) (.agg #[.bool s1, v71, .int .i64 y1]) (.int .i64 p2) (.int .i64 p3) rfl rfl rfl rfl mk ?_
        rintro e w45 ⟨v90, rfl, r90, k45⟩
        refine ⟨_, rfl, ?_⟩
        clear mk
        replace r0 := r0.kp k45
        replace r1 := r1.kp k45
        replace rw0 := rw0.kp k45
        replace rm0 := rm0.kp k45
        replace r70 := r70.kp k45
        replace r71 := r71.kp k45
        replace kw := kw.trans k45
        replace x0_f0 := k45.loose0 (zbl x0_0) x0_f0
        replace x0_f1 := k45.loose0 (zbl x0_1) x0_f1
        replace x0_f2 := k45.loose0 (zbl x0_2) x0_f2
        replace A0_0 := k45.cell0 A0_0
        replace A0_1 := k45.cell0 A0_1
        replace A0_2 := k45.cell0 A0_2
        replace A1_0 := k45.cell0 A1_0
        replace A1_1 := k45.cell0 A1_1
        replace A1_2 := k45.cell0 A1_2
        replace cw0_0 := k45.cell0 cw0_0
        replace cw0_1 := k45.cell0 cw0_1
        replace cw0_2 := k45.cell0 cw0_2
        replace cx0_0 := k45.cell0 cx0_0
        replace cx0_1 := k45.cell0 cx0_1
        replace cx0_2 := k45.cell0 cx0_2
        replace cx1_0 := k45.cell0 cx1_0
        replace cx1_1 := k45.cell0 cx1_1
        replace cx1_2 := k45.cell0 cx1_2
        replace cg0_0 := k45.cell0 cg0_0
        replace cg0_1 := k45.cell0 cg0_1
        replace cg0_2 := k45.cell0 cg0_2
        replace x0_0 := k45.cell0 x0_0
        replace x0_1 := k45.cell0 x0_1
        replace x0_2 := k45.cell0 x0_2
        replace K := hide ((unhide K).trans k45)
        have z46 := k45.size
        obtain ⟨a90, d90, hv⟩ := Row.form' r90
        subst hv
        clear k45
        clear hH
        refine hK.out _ _ ?_ (fun hH => ?_)
        ·exact ⟨A0_0, A0_1, A0_2, A1_0, A1_1, A1_2⟩
        clear hK KK
        try simp only [Act.put, zq1, zq2, zq3, zq4, zq5, zq6]
        refine wpAnyH_take (i := 7) (v := .tuple #[.agg #[.bool G0, .slice a90 L0.length d90, .int .i64 H0], .bool B1]) rfl (by kernel_rfl) (by kernel_rfl) (by kernel_rfl) (fun _ _ _ h => h) (Or.inl ⟨by rfl, ?_⟩) hH ?_
        ·intro wq hSw
         try dsimp only at hSw
         go_simp
        try simp only [Act.put, zq1, zq2, zq3, zq4, zq5, zq6]
        refine wpAnyH_take (i := 8) (v := .agg #[.bool G0, .slice a90 L0.length d90, .int .i64 H0]) rfl (by kernel_rfl) (by kernel_rfl) (by kernel_rfl) (fun _ _ _ h => h) (Or.inl ⟨by rfl, ?_⟩) hH ?_
        ·intro wq hSw
         try dsimp only at hSw
         go_simp
        try simp only [Act.put, zq1, zq2, zq3, zq4, zq5, zq6]
        refine wpAnyH_take (i := 9) (v := .bool B1) rfl (by kernel_rfl) (by kernel_rfl) (by kernel_rfl) (fun _ _ _ h => h) (Or.inl ⟨by rfl, ?_⟩) hH ?_
        ·intro wq hSw
         try dsimp only at hSw
         go_simp
        try simp only [Act.put, zq1, zq2, zq3, zq4, zq5, zq6]
        refine wpAnyH_ready (rs := [11]) (by kernel_rfl) (by simp) ?_
        refine AllReadyH.cons rfl (fun KK hK => ?_) AllReadyH.nil
        simp only [zq1, zq2, zq3]
        rw [if_pos (by rfl)]
        go_simp
        clear hH
        refine hK.out _ _ ?_ (fun hH => ?_)
        ·exact ⟨(cw3 (by have := unhide S0; dsimp only; omega) A0_0), (cw3 (by have := unhide S0; dsimp only; omega) A0_1), (cw3 (by have := unhide S0; dsimp only; omega) A0_2), (cw3 (by have := unhide S0; dsimp only; omega) A1_0), (cw3 (by have := unhide S0; dsimp only; omega) A1_1), (cw3 (by have := unhide S0; dsimp only; omega) A1_2)⟩
        clear hK KK
        try simp only [Act.put, zq1, zq2, zq3, zq4, zq5, zq6]
        refine wpAnyH_take (i := 12) (v := .bool B1) rfl (by kernel_rfl) (by kernel_rfl) (by kernel_rfl) (fun _ _ _ h => h) (Or.inl ⟨by rfl, ?_⟩) hH ?_
        ·intro wq hSw
         try dsimp only at hSw
         go_simp
        try simp only [Act.put, zq1, zq2, zq3, zq4, zq5, zq6]
        refine wpAnyH_done (by kernel_rfl) ?_ _
        clear hH
        go_wp2_with fail
        go_meet
        exact ⟨_, _, rfl, rfl, law_setD G0 H0 kw x0_0 x0_1 x0_2 r90 (by omega) (by omega) (by omega)⟩
   case rest =>
    obtain ⟨Xh0, vh0, rfl, rfl, ch0_0, ch0_1, ch0_2, rh0, hXh0, hYh0, kk⟩ := hcut
    replace r0 := r0.kp kk
    replace r1 := r1.kp kk
    replace rw0 := rw0.kp kk
    replace rm0 := rm0.kp kk
    replace A0_0 := kk.cell0 A0_0
    replace A0_1 := kk.cell0 A0_1
    replace A0_2 := kk.cell0 A0_2
    replace A1_0 := kk.cell0 A1_0
    replace A1_1 := kk.cell0 A1_1
    replace A1_2 := kk.cell0 A1_2
    replace cw0_0 := kk.cell0 cw0_0
    replace cw0_1 := kk.cell0 cw0_1
    replace cw0_2 := kk.cell0 cw0_2
    replace cx0_0 := kk.cell0 cx0_0
    replace cx0_1 := kk.cell0 cx0_1
    replace cx0_2 := kk.cell0 cx0_2
    replace cx1_0 := kk.cell0 cx1_0
    replace cx1_1 := kk.cell0 cx1_1
    replace cx1_2 := kk.cell0 cx1_2
    replace cg0_0 := kk.cell0 cg0_0
    replace cg0_1 := kk.cell0 cg0_1
    replace cg0_2 := kk.cell0 cg0_2
    replace K := hide ((unhide K).trans kk)
    have z38 := kk.size
    clear kk
    obtain ⟨ah0, dh0, hv⟩ := Row.form' rh0
    subst hv
    generalize hwc : wc = we39 at *
    clear hwc
    go_wp2_with fail
    refine (eqDy_same (G0) (H0) _ rh0 rw0).mono ?_
    rintro e w40 ⟨rfl, k40⟩
    replace r0 := r0.kp k40
    replace r1 := r1.kp k40
    replace rw0 := rw0.kp k40
    replace rm0 := rm0.kp k40
    replace rh0 := rh0.kp k40
    replace A0_0 := k40.cell0 A0_0
    replace A0_1 := k40.cell0 A0_1
    replace A0_2 := k40.cell0 A0_2
    replace A1_0 := k40.cell0 A1_0
    replace A1_1 := k40.cell0 A1_1
    replace A1_2 := k40.cell0 A1_2
    replace cw0_0 := k40.cell0 cw0_0
    replace cw0_1 := k40.cell0 cw0_1
    replace cw0_2 := k40.cell0 cw0_2
    replace cx0_0 := k40.cell0 cx0_0
    replace cx0_1 := k40.cell0 cx0_1
    replace cx0_2 := k40.cell0 cx0_2
    replace cx1_0 := k40.cell0 cx1_0
    replace cx1_1 := k40.cell0 cx1_1
    replace cx1_2 := k40.cell0 cx1_2
    replace cg0_0 := k40.cell0 cg0_0
    replace cg0_1 := k40.cell0 cg0_1
    replace cg0_2 := k40.cell0 cg0_2
    replace ch0_0 := k40.cell0 ch0_0
    replace ch0_1 := k40.cell0 ch0_1
    replace ch0_2 := k40.cell0 ch0_2
    replace K := hide ((unhide K).trans k40)
    have z41 := k40.size
    clear k40
    go_wp2_with fail
    refine (heldDy_any (G0) (H0) _ (1) (by omega) (by omega) hq0 rm0).mono ?_
    rintro e w42 ⟨rfl, k42⟩
    replace r0 := r0.kp k42
    replace r1 := r1.kp k42
    replace rw0 := rw0.kp k42
    replace rm0 := rm0.kp k42
    replace rh0 := rh0.kp k42
    replace A0_0 := k42.cell0 A0_0
    replace A0_1 := k42.cell0 A0_1
    replace A0_2 := k42.cell0 A0_2
    replace A1_0 := k42.cell0 A1_0
    replace A1_1 := k42.cell0 A1_1
    replace A1_2 := k42.cell0 A1_2
    replace cw0_0 := k42.cell0 cw0_0
    replace cw0_1 := k42.cell0 cw0_1
    replace cw0_2 := k42.cell0 cw0_2
    replace cx0_0 := k42.cell0 cx0_0
    replace cx0_1 := k42.cell0 cx0_1
    replace cx0_2 := k42.cell0 cx0_2
    replace cx1_0 := k42.cell0 cx1_0
    replace cx1_1 := k42.cell0 cx1_1
    replace cx1_2 := k42.cell0 cx1_2
    replace cg0_0 := k42.cell0 cg0_0
    replace cg0_1 := k42.cell0 cg0_1
    replace cg0_2 := k42.cell0 cg0_2
    replace ch0_0 := k42.cell0 ch0_0
    replace ch0_1 := k42.cell0 ch0_1
    replace ch0_2 := k42.cell0 ch0_2
    replace K := hide ((unhide K).trans k42)
    have z43 := k42.size
    clear k42
    have nq043 : ¬ (1 + (L0.length : Int)) < 0 := by omega
    go_wp2_with fail
    go_ret
    exact ⟨rfl, (unhide K).toBelow⟩

end Go.Proofs.YteogibgcgccafaaDoor
