/-
  A product of floats that are numbers: the model's l5mul, told by the kinds' numbers.
-/
import Derived.Test.YtepehpkmejjhiaaGreatDoorFm4
import Derived.Deep.RegionHeld3
import Derived.Deep.DeepCutAuto
namespace Go.Proofs.YtepehpkmejjhiaaGreatDoor
open Go.RowKit
set_option linter.unusedVariables false
set_option maxRecDepth 8000
set_option linter.unusedSimpArgs false

theorem wsg_ne {k : Int} {n : Bool} {m e : Int} (h : flok k n m e = true) (hk : k ≤ 1) (hf : fM k n m ≠ 0) : wsg (fM k n m) = n := by
  rcases flok_ways h with ⟨rfl, a1, a2, a3, a4, -⟩ | ⟨rfl, rfl, rfl⟩ | ⟨rfl, -⟩ | ⟨rfl, -⟩
  ·exact wsg_fM n a3
  ·exact absurd (fM_zero (by decide) _ _) hf
  ·omega
  ·omega

set_option maxHeartbeats 4000000 in
theorem mulS_fin {k1 : Int} {n1 : Bool} {m1 e1 k2 : Int} {n2 : Bool} {m2 e2 : Int} (h1 : flok k1 n1 m1 e1 = true) (h2 : flok k2 n2 m2 e2 = true) (j1 : k1 ≤ 1) (j2 : k2 ≤ 1) (mode : Int) (hm0 : 0 ≤ mode) (hm4 : mode ≤ 4) (w : World) :
    Calls Tryz.prog 60 #[flv k1 n1 m1 e1, flv k2 n2 m2 e2, .int .i64 mode] w fun e' w' => e' = .returned (.tuple #[flq (mulQ k1 n1 m1 e1 k2 n2 m2 e2 mode).1, .int .i64 (mulQ k1 n1 m1 e1 k2 n2 m2 e2 mode).2]) ∧ Kept 0 0 w w' := by
  obtain ⟨Q, hQ⟩ : ∃ q, mulQ k1 n1 m1 e1 k2 n2 m2 e2 mode = q := ⟨_, rfl⟩
  rw [hQ]
  obtain ⟨a1, b1, c1, d1, -, f1, -⟩ := fl_fin_ways h1 j1
  have ab1 : (fM k1 n1 m1).natAbs < 2 ^ 64 := fM_abs _ _ c1 d1
  have ok1 := dok_fl (fM k1 n1 m1) e1 ab1 (by omega) (by omega)
  have md1 := fun w => dy5_fin h1 j1 w
  have sg1 := wsg_ne h1 j1
  obtain ⟨a2, b2, c2, d2, -, f2, -⟩ := fl_fin_ways h2 j2
  have ab2 : (fM k2 n2 m2).natAbs < 2 ^ 64 := fM_abs _ _ c2 d2
  have ok2 := dok_fl (fM k2 n2 m2) e2 ab2 (by omega) (by omega)
  have md2 := fun w => dy5_fin h2 j2 w
  have sg2 := wsg_ne h2 j2
  have hq : (((flA mode (!(n1 == n2)) ((fM k1 n1 m1).natAbs * (fM k2 n2 m2).natAbs) (e1 + e2)).1, !(n1 == n2), (flA mode (!(n1 == n2)) ((fM k1 n1 m1).natAbs * (fM k2 n2 m2).natAbs) (e1 + e2)).2.1, (flA mode (!(n1 == n2)) ((fM k1 n1 m1).natAbs * (fM k2 n2 m2).natAbs) (e1 + e2)).2.2), flG mode (!(n1 == n2)) ((fM k1 n1 m1).natAbs * (fM k2 n2 m2).natAbs) (e1 + e2)) = Q := by
   rw [← hQ]
   unfold mulQ
   rw [if_neg (show ¬ (k1 = 3 ∨ k2 = 3) by omega), if_neg (show ¬ ((k1 = 2 ∧ k2 = 0) ∨ (k1 = 0 ∧ k2 = 2)) by omega), if_neg (show ¬ (k1 = 2 ∨ k2 = 2) by omega)]
  obtain ⟨F1, hF1⟩ : ∃ y, fM k1 n1 m1 = y := ⟨_, rfl⟩
  simp only [hF1] at ab1 ok1 f1 md1 sg1 hq
  clear hF1
  obtain ⟨F2, hF2⟩ : ∃ y, fM k2 n2 m2 = y := ⟨_, rfl⟩
  simp only [hF2] at ab2 ok2 f2 md2 sg2 hq
  clear hF2
  obtain ⟨s1, hs1⟩ : ∃ y, wsg F1 = y := ⟨_, rfl⟩
  obtain ⟨z1, hz1⟩ : ∃ y, dlm F1 = y := ⟨_, rfl⟩
  obtain ⟨x1, hx1⟩ : ∃ y, dex F1 e1 = y := ⟨_, rfl⟩
  obtain ⟨s2, hs2⟩ : ∃ y, wsg F2 = y := ⟨_, rfl⟩
  obtain ⟨z2, hz2⟩ : ∃ y, dlm F2 = y := ⟨_, rfl⟩
  obtain ⟨x2, hx2⟩ : ∃ y, dex F2 e2 = y := ⟨_, rfl⟩
  obtain ⟨M, hM⟩ : ∃ y, wval s1 z1 * wval s2 z2 = y := ⟨_, rfl⟩
  obtain ⟨X, hX⟩ : ∃ y, x1 + x2 = y := ⟨_, rfl⟩
  obtain ⟨g1, g2, g3⟩ := mul_fin mode (!(n1 == n2)) F1 F2 e1 e2 M X (by rw [hs1, hs2, hz1, hz2]; exact hM) (by rw [hx1, hx2]; exact hX) (fun y1 y2 => by rw [sg1 y1, sg2 y2])
  have hMb : M.natAbs < 2 ^ 128 := by
   rw [← hM, ← hs1, ← hs2, ← hz1, ← hz2, Int.natAbs_mul, dlm_abs, dlm_abs]
   have q1 := Nat.lt_of_le_of_lt (Nat.div_le_self F1.natAbs (2 ^ tz F1.natAbs)) ab1
   have q2 := Nat.lt_of_le_of_lt (Nat.div_le_self F2.natAbs (2 ^ tz F2.natAbs)) ab2
   calc _ < 2 ^ 64 * 2 ^ 64 := Nat.mul_lt_mul'' q1 q2
    _ = 2 ^ 128 := by decide
  have hxb : -3000 ≤ x1 ∧ x1 ≤ 3000 ∧ -3000 ≤ x2 ∧ x2 ≤ 3000 := by
   have q1 := (dok_parts ok1).2
   have q2 := (dok_parts ok2).2
   rw [hx1] at q1
   rw [hx2] at q2
   omega
  have hdl := dex_lo (m := M) (x := X) (L := -10000) (by omega) (by omega)
  have hdh := dex_hi (x := X) hMb
  have hdM : -10000 ≤ dex M X ∧ dex M X ≤ 10000 := by omega
  have hlM : (dlm M).length ≤ 8 := Nat.le_trans (dlm_len (M := M) rfl) (wlm_len hMb (by omega))
  rw [hs1, hz1, hx1] at ok1
  rw [hs2, hz2, hx2] at ok2
  simp only [hs1, hz1, hx1] at md1
  simp only [hs2, hz2, hx2] at md2
  obtain ⟨A, hA⟩ : ∃ y, flA mode (wsg M) (val (dlm M)).toNat (dex M X) = y := ⟨_, rfl⟩
  obtain ⟨GG, hGG⟩ : ∃ y, flG mode (wsg M) (val (dlm M)).toNat (dex M X) = y := ⟨_, rfl⟩
  rw [hA] at g1
  rw [hGG] at g2
  rw [← g1, ← g2] at hq
  have FQ : Hid (Q = ((A.1, !(n1 == n2), A.2.1, A.2.2), GG)) := hq.symm
  have HA := hide hA
  have HGG := hide hGG
  have HJ := hide g3
  have HM := hide hM
  have HX := hide hX
  replace md1 := hide md1
  replace md2 := hide md2
  clear hs1 hs2 hz1 hz2 hx1 hx2 hA hGG g1 g2 g3 hM hX hMb ab1 ab2 hq hQ hdl hdh f1 f2 sg1 sg2
  have b13 : (k1 == 3) = false := by simp; omega
  have b12 : (k1 == 2) = false := by simp; omega
  have b23 : (k2 == 3) = false := by simp; omega
  have b22 : (k2 == 2) = false := by simp; omega
  clear j1 j2
  cases b10 : (k1 == 0)
  all_goals
   obtain ⟨Wn, hn0⟩ : ∃ wz, wz = (((w.alloc (.cells #[.int .i64 k1, .bool n1, .int .i64 m1, .int .i64 e1] 24)).alloc (.cells #[.int .i64 k2, .bool n2, .int .i64 m2, .int .i64 e2] 24)).alloc (.cells #[.int .i64 0, .bool false, .int .i64 0, .int .i64 0] 24)) := ⟨_, rfl⟩
   have k0 : Kept 0 0 w Wn := by rw [hn0]; exact ((((Kept.refl 0 0 w).alloc _).alloc _).alloc _)
   have p0 : Wn.cell? ⟨w.heap.size, 0, none⟩ = some (.int .i64 k1) := by rw [hn0]; exact old_cell _ (old_cell _ (new_cell2 _ _ _ _ _ _ (by simp) rfl))
   have p1 : Wn.cell? ⟨w.heap.size, 1, none⟩ = some (.bool n1) := by rw [hn0]; exact old_cell _ (old_cell _ (new_cell2 _ _ _ _ _ _ (by simp) rfl))
   have p2 : Wn.cell? ⟨w.heap.size, 2, none⟩ = some (.int .i64 m1) := by rw [hn0]; exact old_cell _ (old_cell _ (new_cell2 _ _ _ _ _ _ (by simp) rfl))
   have p3 : Wn.cell? ⟨w.heap.size, 3, none⟩ = some (.int .i64 e1) := by rw [hn0]; exact old_cell _ (old_cell _ (new_cell2 _ _ _ _ _ _ (by simp) rfl))
   have t0 : Wn.cell? ⟨w.heap.size + 1, 0, none⟩ = some (.int .i64 k2) := by rw [hn0]; exact old_cell _ (new_cell2 _ _ _ _ _ _ (by simp) rfl)
   have t1 : Wn.cell? ⟨w.heap.size + 1, 1, none⟩ = some (.bool n2) := by rw [hn0]; exact old_cell _ (new_cell2 _ _ _ _ _ _ (by simp) rfl)
   have t2 : Wn.cell? ⟨w.heap.size + 1, 2, none⟩ = some (.int .i64 m2) := by rw [hn0]; exact old_cell _ (new_cell2 _ _ _ _ _ _ (by simp) rfl)
   have t3 : Wn.cell? ⟨w.heap.size + 1, 3, none⟩ = some (.int .i64 e2) := by rw [hn0]; exact old_cell _ (new_cell2 _ _ _ _ _ _ (by simp) rfl)
   obtain ⟨q0, q1, q2, q3, qf0, qf1, qf2, qf3⟩ := new4 hn0 (n := w.heap.size + 2) (by simp)
   have s0 : Wn.heap.size = w.heap.size + 3 := by rw [hn0]; exact by simp
   subst hn0
   have K := hide (k0)
   clear k0
   have S0 := hide s0
   clear s0
   go_enter Tryz.func60, Tryz.ntmps60
   go_wp2_with fail
   generalize (((w.alloc (.cells #[.int .i64 k1, .bool n1, .int .i64 m1, .int .i64 e1] 24)).alloc (.cells #[.int .i64 k2, .bool n2, .int .i64 m2, .int .i64 e2] 24)).alloc (.cells #[.int .i64 0, .bool false, .int .i64 0, .int .i64 0] 24)) = W at *
   have kd := (Kept.refl 0 0 W).drew
   revert qf0 qf1 qf2 qf3; refine kd.l4 q0 q1 q2 q3 ?_; intro qf0 qf1 qf2 qf3
   revert p0 p1 p2 p3 t0 t1 t2 t3 q0 q1 q2 q3; refine kd.m12 ?_; intro p0 p1 p2 p3 t0 t1 t2 t3 q0 q1 q2 q3
   replace K := hide ((unhide K).trans kd)
   have z1 := kd.size
   clear kd
   refine wp_region_held_drew (S := (fun w' => w'.cell? ⟨w.heap.size, 0, none⟩ = some (.int .i64 k1) ∧ w'.cell? ⟨w.heap.size, 1, none⟩ = some (.bool n1) ∧ w'.cell? ⟨w.heap.size, 2, none⟩ = some (.int .i64 m1) ∧ w'.cell? ⟨w.heap.size, 3, none⟩ = some (.int .i64 e1) ∧ w'.cell? ⟨w.heap.size + 1, 0, none⟩ = some (.int .i64 k2) ∧ w'.cell? ⟨w.heap.size + 1, 1, none⟩ = some (.bool n2) ∧ w'.cell? ⟨w.heap.size + 1, 2, none⟩ = some (.int .i64 m2) ∧ w'.cell? ⟨w.heap.size + 1, 3, none⟩ = some (.int .i64 e2))) (by kernel_rfl) ?_ (fun hH => ?_)
   ·exact ⟨p0, p1, p2, p3, t0, t1, t2, t3⟩
   refine wT (i := 0) (v := .agg #[.int .i64 k1, .bool n1, .int .i64 m1, .int .i64 e1]) rfl (Or.inl ⟨by rfl, ?_⟩) hH ?_
   ·intro wq hSw
    try dsimp only at hSw
    go_simp
   try simp only [Act.put, zq1, zq2, zq3, zq4, zq5, zq6]
   refine wT (i := 2) (v := .agg #[.int .i64 k2, .bool n2, .int .i64 m2, .int .i64 e2]) rfl (Or.inl ⟨by rfl, ?_⟩) hH ?_
   ·intro wq hSw
    try dsimp only at hSw
    go_simp
   try simp only [Act.put, zq1, zq2, zq3, zq4, zq5, zq6]
   refine wT (i := 5) (v := .int .i64 mode) rfl (Or.inl ⟨by rfl, ?_⟩) hH ?_
   ·intro wq hSw
    try dsimp only at hSw
    go_simp
   try simp only [Act.put, zq1, zq2, zq3, zq4, zq5, zq6]
   refine wT (i := 6) (v := .bool (!(n1 == n2))) rfl (Or.inl ⟨by rfl, ?_⟩) hH ?_
   ·intro wq hSw
    try dsimp only at hSw
    go_simp
   try simp only [Act.put, zq1, zq2, zq3, zq4, zq5, zq6]
   refine wR 1 (by kernel_rfl) rfl (fun KK hK => ?_)
   simp only [zq1, zq2, zq3]
   rw [if_pos (by rfl)]
   refine wps1 65 (.tmp 57) _ rfl in_l5dy_m (.agg #[.int .i64 k1, .bool n1, .int .i64 m1, .int .i64 e1]) rfl (unhide md1 _) ?_
   rintro e w2 ⟨v1, rfl, r1, k2⟩
   refine ⟨_, rfl, ?_⟩
   revert qf0 qf1 qf2 qf3; refine k2.l4 q0 q1 q2 q3 ?_; intro qf0 qf1 qf2 qf3
   revert p0 p1 p2 p3 t0 t1 t2 t3 q0 q1 q2 q3; refine k2.m12 ?_; intro p0 p1 p2 p3 t0 t1 t2 t3 q0 q1 q2 q3
   replace K := hide ((unhide K).trans k2)
   have z3 := k2.size
   clear k2
   clear hH
   refine hK.out _ _ ?_ (fun hH => ?_)
   ·exact ⟨p0, p1, p2, p3, t0, t1, t2, t3⟩
   clear hK KK
   try simp only [Act.put, zq1, zq2, zq3, zq4, zq5, zq6]
   refine wR 3 (by kernel_rfl) rfl (fun KK hK => ?_)
   simp only [zq1, zq2, zq3]
   rw [if_pos (by rfl)]
   refine wps1 65 (.tmp 59) _ rfl in_l5dy_m (.agg #[.int .i64 k2, .bool n2, .int .i64 m2, .int .i64 e2]) rfl (unhide md2 _) ?_
   rintro e w4 ⟨v2, rfl, r2, k4⟩
   refine ⟨_, rfl, ?_⟩
   replace r1 := r1.kp k4
   revert qf0 qf1 qf2 qf3; refine k4.l4 q0 q1 q2 q3 ?_; intro qf0 qf1 qf2 qf3
   revert p0 p1 p2 p3 t0 t1 t2 t3 q0 q1 q2 q3; refine k4.m12 ?_; intro p0 p1 p2 p3 t0 t1 t2 t3 q0 q1 q2 q3
   replace K := hide ((unhide K).trans k4)
   have z5 := k4.size
   clear k4
   clear hH
   refine hK.out _ _ ?_ (fun hH => ?_)
   ·exact ⟨p0, p1, p2, p3, t0, t1, t2, t3⟩
   clear hK KK
   try simp only [Act.put, zq1, zq2, zq3, zq4, zq5, zq6]
   refine wR 4 (by kernel_rfl) rfl (fun KK hK => ?_)
   simp only [zq1, zq2, zq3]
   rw [if_pos (by rfl)]
   refine wps2 64 (.tmp 58) (.tmp 60) _ rfl in_l4mul_m (.agg #[.bool s1, v1, .int .i64 x1]) (.agg #[.bool s2, v2, .int .i64 x2]) rfl rfl (mul4_spec s1 s2 x1 x2 _ r1 r2 ok1 ok2) ?_
   rintro e w6 ⟨v3, rfl, r3, k6⟩
   refine ⟨_, rfl, ?_⟩
   replace r1 := r1.kp k6
   replace r2 := r2.kp k6
   revert qf0 qf1 qf2 qf3; refine k6.l4 q0 q1 q2 q3 ?_; intro qf0 qf1 qf2 qf3
   revert p0 p1 p2 p3 t0 t1 t2 t3 q0 q1 q2 q3; refine k6.m12 ?_; intro p0 p1 p2 p3 t0 t1 t2 t3 q0 q1 q2 q3
   replace K := hide ((unhide K).trans k6)
   have z7 := k6.size
   clear k6
   clear hH
   refine hK.out _ _ ?_ (fun hH => ?_)
   ·exact ⟨p0, p1, p2, p3, t0, t1, t2, t3⟩
   clear hK KK
   try simp only [Act.put, zq1, zq2, zq3, zq4, zq5, zq6]
   rw [unhide HM] at r3
   rw [unhide HM, unhide HX]
   refine wR 7 (by kernel_rfl) rfl (fun KK hK => ?_)
   simp only [zq1, zq2, zq3]
   rw [if_pos (by rfl)]
   refine wps3 62 (.tmp 61) (.tmp 62) (.tmp 63) _ rfl in_l5round_m (.agg #[.bool (wsg M), v3, .int .i64 (dex M X)]) (.int .i64 mode) (.bool (!(n1 == n2))) rfl rfl rfl (l5round_spec (wsg M) (dex M X) (by omega) (by omega) _ r3 (wn_dlm M) (odd_dlm M) (dex_nil M X) (by omega) mode hm0 hm4 (!(n1 == n2))) ?_
   rintro e w8 ⟨rfl, k8⟩
   refine ⟨_, rfl, ?_⟩
   replace r1 := r1.kp k8
   replace r2 := r2.kp k8
   replace r3 := r3.kp k8
   revert qf0 qf1 qf2 qf3; refine k8.l4 q0 q1 q2 q3 ?_; intro qf0 qf1 qf2 qf3
   revert p0 p1 p2 p3 t0 t1 t2 t3 q0 q1 q2 q3; refine k8.m12 ?_; intro p0 p1 p2 p3 t0 t1 t2 t3 q0 q1 q2 q3
   replace K := hide ((unhide K).trans k8)
   have z9 := k8.size
   clear k8
   clear hH
   refine hK.out _ _ ?_ (fun hH => ?_)
   ·exact ⟨p0, p1, p2, p3, t0, t1, t2, t3⟩
   clear hK KK
   try simp only [Act.put, zq1, zq2, zq3, zq4, zq5, zq6]
   rw [unhide HA, unhide HGG, unhide HJ]
   refine wT (i := 8) (v := .agg #[.int .i64 A.1, .bool (!(n1 == n2)), .int .i64 A.2.1, .int .i64 A.2.2]) rfl (Or.inl ⟨by rfl, ?_⟩) hH ?_
   ·intro wq hSw
    try dsimp only at hSw
    go_simp
   try simp only [Act.put, zq1, zq2, zq3, zq4, zq5, zq6]
   refine wT (i := 9) (v := .int .i64 GG) rfl (Or.inl ⟨by rfl, ?_⟩) hH ?_
   ·intro wq hSw
    try dsimp only at hSw
    go_simp
   try simp only [Act.put, zq1, zq2, zq3, zq4, zq5, zq6]
   refine wR 10 (by kernel_rfl) rfl (fun KK hK => ?_)
   simp only [zq1, zq2, zq3]
   rw [if_pos (by rfl)]
   go_simp
   clear hH
   refine hK.out _ _ ?_ (fun hH => ?_)
   ·have sq := unhide S0; exact ⟨(cell_aside _ (by dsimp only; omega) (cw3 (by dsimp only; omega) p0)), (cell_aside _ (by dsimp only; omega) (cw3 (by dsimp only; omega) p1)), (cell_aside _ (by dsimp only; omega) (cw3 (by dsimp only; omega) p2)), (cell_aside _ (by dsimp only; omega) (cw3 (by dsimp only; omega) p3)), (cell_aside _ (by dsimp only; omega) (cw3 (by dsimp only; omega) t0)), (cell_aside _ (by dsimp only; omega) (cw3 (by dsimp only; omega) t1)), (cell_aside _ (by dsimp only; omega) (cw3 (by dsimp only; omega) t2)), (cell_aside _ (by dsimp only; omega) (cw3 (by dsimp only; omega) t3))⟩
   clear hK KK
   try simp only [Act.put, zq1, zq2, zq3, zq4, zq5, zq6]
   refine wT (i := 11) (v := .int .i64 GG) rfl (Or.inl ⟨by rfl, ?_⟩) hH ?_
   ·intro wq hSw
    try dsimp only at hSw
    go_simp
   try simp only [Act.put, zq1, zq2, zq3, zq4, zq5, zq6]
   refine wpAnyH_done (by kernel_rfl) ?_ _
   clear hH
   have KF := hide (((((unhide K).setNew (p := ⟨w.heap.size + 2, 0, none⟩) (by simp) (.int .i64 A.1)).setNew (p := ⟨w.heap.size + 2, 1, none⟩) (by simp) (.bool (!(n1 == n2)))).setNew (p := ⟨w.heap.size + 2, 2, none⟩) (by simp) (.int .i64 A.2.1)).setNew (p := ⟨w.heap.size + 2, 3, none⟩) (by simp) (.int .i64 A.2.2))
   clear r1 r2 r3 K
   try go_wp2_with fail
   exact bodyPost_ret (v := .tuple #[.agg #[.int .i64 A.1, .bool (!(n1 == n2)), .int .i64 A.2.1, .int .i64 A.2.2], .int .i64 GG]) (by simp [results, Tryz.results60, go_sem, q0, q1, q2, q3]) rfl ⟨by rw [unhide FQ], unhide KF⟩

end Go.Proofs.YtepehpkmejjhiaaGreatDoor

