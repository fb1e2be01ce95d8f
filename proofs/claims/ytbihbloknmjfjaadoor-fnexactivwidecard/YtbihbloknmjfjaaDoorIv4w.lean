/-
  Intervals of the model: IvWide.
-/
import Derived.Test.YtbihbloknmjfjaaDoorIv1D
import Derived.Test.YtbihbloknmjfjaaDoorIvR
import Derived.Deep.DeepCutAuto
import Derived.Deep.RegionHeld3
namespace Go.Proofs.YtbihbloknmjfjaaDoor
open Go.RowKit
set_option linter.unusedVariables false
set_option maxRecDepth 8000
set_option linter.unusedSimpArgs false

set_option maxHeartbeats 4000000 in
theorem ivwide_spec {b1 b2 : Bool} {w1l w1h w2l w2h : Nat} {v1 v2 : Value} {l1 l2 : List Int} (s1 : Bool) (e1 : Int) (hu1 : e1 ≤ 9223372036854775807) (hd1 : -9223372036854775808 ≤ e1) (s2 : Bool) (e2 : Int) (hu2 : e2 ≤ 9223372036854775807) (hd2 : -9223372036854775808 ≤ e2) (w : World) (r1 : Row .i64 b1 w1l w1h w v1 l1) (r2 : Row .i64 b2 w2l w2h w v2 l2) :
    Calls Tryd.prog 22 #[.agg #[.bool s1, v1, .int .i64 e1, .bool s2, v2, .int .i64 e2]] w fun e w' => ∃ v', e = .returned (.tuple #[.agg #[.bool (ansDS (iokB s1 l1 e1 s2 l2 e2) (wval s2 l2 * 2 ^ (e2 - min e2 e1).toNat - wval s1 l1 * 2 ^ (e1 - min e2 e1).toNat) (min e2 e1)), v', .int .i64 (ansDE (iokB s1 l1 e1 s2 l2 e2) (wval s2 l2 * 2 ^ (e2 - min e2 e1).toNat - wval s1 l1 * 2 ^ (e1 - min e2 e1).toNat) (min e2 e1))], .bool (ansDB (iokB s1 l1 e1 s2 l2 e2) (wval s2 l2 * 2 ^ (e2 - min e2 e1).toNat - wval s1 l1 * 2 ^ (e1 - min e2 e1).toNat) (min e2 e1))]) ∧ Row .i64 true w.heap.size w'.heap.size w' v' (ansDL (iokB s1 l1 e1 s2 l2 e2) (wval s2 l2 * 2 ^ (e2 - min e2 e1).toNat - wval s1 l1 * 2 ^ (e1 - min e2 e1).toNat) (min e2 e1)) ∧ Kept 0 0 w w' := by
  obtain ⟨GS, hGS⟩ : ∃ y, ansDS (iokB s1 l1 e1 s2 l2 e2) (wval s2 l2 * 2 ^ (e2 - min e2 e1).toNat - wval s1 l1 * 2 ^ (e1 - min e2 e1).toNat) (min e2 e1) = y := ⟨_, rfl⟩
  obtain ⟨GL, hGL⟩ : ∃ y, ansDL (iokB s1 l1 e1 s2 l2 e2) (wval s2 l2 * 2 ^ (e2 - min e2 e1).toNat - wval s1 l1 * 2 ^ (e1 - min e2 e1).toNat) (min e2 e1) = y := ⟨_, rfl⟩
  obtain ⟨GE, hGE⟩ : ∃ y, ansDE (iokB s1 l1 e1 s2 l2 e2) (wval s2 l2 * 2 ^ (e2 - min e2 e1).toNat - wval s1 l1 * 2 ^ (e1 - min e2 e1).toNat) (min e2 e1) = y := ⟨_, rfl⟩
  obtain ⟨GB, hGB⟩ : ∃ y, ansDB (iokB s1 l1 e1 s2 l2 e2) (wval s2 l2 * 2 ^ (e2 - min e2 e1).toNat - wval s1 l1 * 2 ^ (e1 - min e2 e1).toNat) (min e2 e1) = y := ⟨_, rfl⟩
  try rw [hGS]
  try rw [hGL]
  try rw [hGE]
  try rw [hGB]
  have HGS := hide hGS
  have HGL := hide hGL
  have HGE := hide hGE
  have HGB := hide hGB
  clear hGS hGL hGE hGB
  obtain ⟨Wn, hn0⟩ : ∃ wz, wz = ((w.alloc (.cells #[.bool s1, v1, .int .i64 e1, .bool s2, v2, .int .i64 e2] 36)).alloc (.cells #[.bool false, .slice none 0 0, .int .i64 0] 34)) := ⟨_, rfl⟩
  have k0 : Kept 0 0 w Wn := by rw [hn0]; exact (((Kept.refl 0 0 w).alloc _).alloc _)
  have bp0 : Wn.cell? ⟨w.heap.size, 0, none⟩ = some (.bool s1) := by rw [hn0]; exact old_cell _ (new_cell2 _ _ _ _ _ _ (by simp) rfl)
  have bp1 : Wn.cell? ⟨w.heap.size, 1, none⟩ = some (v1) := by rw [hn0]; exact old_cell _ (new_cell2 _ _ _ _ _ _ (by simp) rfl)
  have bp2 : Wn.cell? ⟨w.heap.size, 2, none⟩ = some (.int .i64 e1) := by rw [hn0]; exact old_cell _ (new_cell2 _ _ _ _ _ _ (by simp) rfl)
  have bp3 : Wn.cell? ⟨w.heap.size, 3, none⟩ = some (.bool s2) := by rw [hn0]; exact old_cell _ (new_cell2 _ _ _ _ _ _ (by simp) rfl)
  have bp4 : Wn.cell? ⟨w.heap.size, 4, none⟩ = some (v2) := by rw [hn0]; exact old_cell _ (new_cell2 _ _ _ _ _ _ (by simp) rfl)
  have bp5 : Wn.cell? ⟨w.heap.size, 5, none⟩ = some (.int .i64 e2) := by rw [hn0]; exact old_cell _ (new_cell2 _ _ _ _ _ _ (by simp) rfl)
  have q0 : Wn.cell? ⟨w.heap.size + 1, 0, none⟩ = some (.bool false) := by rw [hn0]; exact new_cell2 _ _ _ _ _ _ (by simp) rfl
  have qf0 : Wn.frozen? ⟨w.heap.size + 1, 0, none⟩ = false := by rw [hn0]; exact new_loose2 _ _ _ _ _ (by simp)
  have q1 : Wn.cell? ⟨w.heap.size + 1, 1, none⟩ = some (.slice none 0 0) := by rw [hn0]; exact new_cell2 _ _ _ _ _ _ (by simp) rfl
  have qf1 : Wn.frozen? ⟨w.heap.size + 1, 1, none⟩ = false := by rw [hn0]; exact new_loose2 _ _ _ _ _ (by simp)
  have q2 : Wn.cell? ⟨w.heap.size + 1, 2, none⟩ = some (.int .i64 0) := by rw [hn0]; exact new_cell2 _ _ _ _ _ _ (by simp) rfl
  have qf2 : Wn.frozen? ⟨w.heap.size + 1, 2, none⟩ = false := by rw [hn0]; exact new_loose2 _ _ _ _ _ (by simp)
  subst hn0
  replace r1 := r1.kept k0 (by omega)
  replace r2 := r2.kept k0 (by omega)
  have s0 : ((w.alloc (.cells #[.bool s1, v1, .int .i64 e1, .bool s2, v2, .int .i64 e2] 36)).alloc (.cells #[.bool false, .slice none 0 0, .int .i64 0] 34)).heap.size = w.heap.size + 2 := by simp
  obtain ⟨a1, c1, hv⟩ := Row.form' r1
  subst hv
  obtain ⟨a2, c2, hv⟩ := Row.form' r2
  subst hv
  have K := hide (k0)
  clear k0
  have S0 := hide s0
  clear s0
  go_enter Tryd.func22, Tryd.ntmps22
  go_wp2_with fail
  generalize ((w.alloc (.cells #[.bool s1, .slice a1 l1.length c1, .int .i64 e1, .bool s2, .slice a2 l2.length c2, .int .i64 e2] 36)).alloc (.cells #[.bool false, .slice none 0 0, .int .i64 0] 34)) = W at *
  refine (ivok_spec s1 e1 hu1 hd1 s2 e2 hu2 hd2 _ r1 r2).mono ?_
  rintro e w1 ⟨rfl, k1⟩
  replace r1 := r1.kp k1
  replace r2 := r2.kp k1
  replace qf0 := k1.loose0 (zbl q0) qf0
  replace qf1 := k1.loose0 (zbl q1) qf1
  replace qf2 := k1.loose0 (zbl q2) qf2
  replace bp0 := k1.cell0 bp0
  replace bp1 := k1.cell0 bp1
  replace bp2 := k1.cell0 bp2
  replace bp3 := k1.cell0 bp3
  replace bp4 := k1.cell0 bp4
  replace bp5 := k1.cell0 bp5
  replace q0 := k1.cell0 q0
  replace q1 := k1.cell0 q1
  replace q2 := k1.cell0 q2
  replace K := hide ((unhide K).trans k1)
  have z2 := k1.size
  clear k1
  cases ho : iokB s1 l1 e1 s2 l2 e2
  ·have HO := hide ho
   clear ho
   have HF : Hid (GS = false ∧ GL = [] ∧ GE = 0 ∧ GB = false) := by
    have hno : GB = false := by rw [← unhide HGB]; exact ansDB_no (unhide HO)
    have hno' := hno
    rw [← unhide HGB] at hno'
    obtain ⟨b1, b2, b3⟩ := ansD_no hno'
    exact ⟨by rw [← unhide HGS, b1], by rw [← unhide HGL, b2], by rw [← unhide HGE, b3], hno⟩
   have KF := hide ((((unhide K).setNew (p := ⟨w.heap.size + 1, 0, none⟩) (by simp) (.bool false)).setNew (p := ⟨w.heap.size + 1, 1, none⟩) (by simp) (.slice none 0 0)).setNew (p := ⟨w.heap.size + 1, 2, none⟩) (by simp) (.int .i64 0))
   clear r1 r2 K
   go_wp2_with fail
   exact bodyPost_ret (v := .tuple #[.agg #[.bool false, .slice none 0 0, .int .i64 0], .bool false]) (by simp [results, Tryd.results22, go_sem, q0, q1, q2]) rfl ⟨_, by rw [(unhide HF).1, (unhide HF).2.2.1, (unhide HF).2.2.2], by rw [(unhide HF).2.1]; exact Row.nil _ _ _ _ _, unhide KF⟩
  obtain ⟨i1, i2, -⟩ := iok_parts ho
  have HC := hide ho
  have I1 := hide i1
  have I2 := hide i2
  clear ho i1 i2
  have mkn := fun w' r' => neg4_spec (bw := b1) (lo := w1l) (hi := w1h) (v := .slice a1 l1.length c1) (zs := l1) s1 e1 w' r' (wok_int (dok_parts (unhide I1)).1).2.2.2 (by have := (wok_int (dok_parts (unhide I1)).1).2.2.1; omega)
  have mka := fun v' w' lo' r1' (r' : Row .i64 true lo' w'.heap.size w' v' (wlm (-wval s1 l1))) => add4_spec (b1 := b2) (l1 := w2l) (h1 := w2h) (v1 := .slice a2 l2.length c2) (v2 := v') s2 (wsg (-wval s1 l1)) e2 e1 w' r1' r' (unhide I2) (dok_neg (unhide I1)).1
  simp only [dif_sum (unhide I1)] at mka
  have rg : dex (wval s2 l2 * 2 ^ (e2 - min e2 e1).toNat - wval s1 l1 * 2 ^ (e1 - min e2 e1).toNat) (min e2 e1) ≤ 9223372036854775807 ∧ -9223372036854775808 ≤ dex (wval s2 l2 * 2 ^ (e2 - min e2 e1).toNat - wval s1 l1 * 2 ^ (e1 - min e2 e1).toNat) (min e2 e1) := dif_sum (unhide I1) ▸ sum_rg (unhide I2) (dok_neg (unhide I1)).1
  obtain ⟨y1, y2, y3, y4⟩ := fits_ans (unhide HC) (wval s2 l2 * 2 ^ (e2 - min e2 e1).toNat - wval s1 l1 * 2 ^ (e1 - min e2 e1).toNat) (min e2 e1)
  have mkf : ∀ v' w' lo', Row .i64 true lo' w'.heap.size w' v' (dlm (wval s2 l2 * 2 ^ (e2 - min e2 e1).toNat - wval s1 l1 * 2 ^ (e1 - min e2 e1).toNat)) → Calls Tryd.prog 43 #[.agg #[.bool (wsg (wval s2 l2 * 2 ^ (e2 - min e2 e1).toNat - wval s1 l1 * 2 ^ (e1 - min e2 e1).toNat)), v', .int .i64 (dex (wval s2 l2 * 2 ^ (e2 - min e2 e1).toNat - wval s1 l1 * 2 ^ (e1 - min e2 e1).toNat) (min e2 e1))]] w' fun e w'' => ∃ v'', e = .returned (.tuple #[.agg #[.bool GS, v'', .int .i64 GE], .bool GB]) ∧ Row .i64 true lo' w''.heap.size w'' v'' GL ∧ Kept 0 0 w' w'' := fun v' w' lo' r' => by
   have mk := fits4_spec (wsg (wval s2 l2 * 2 ^ (e2 - min e2 e1).toNat - wval s1 l1 * 2 ^ (e1 - min e2 e1).toNat)) (dex (wval s2 l2 * 2 ^ (e2 - min e2 e1).toNat - wval s1 l1 * 2 ^ (e1 - min e2 e1).toNat) (min e2 e1)) rg.1 rg.2 w' r'
   rw [y4, y1, y2, y3, unhide HGS, unhide HGL, unhide HGE, unhide HGB] at mk
   exact mk
  clear y1 y2 y3 y4 rg
  generalize wlm (-wval s1 l1) = yy at *
  generalize wsg (-wval s1 l1) = sy at *
  generalize hDL : dlm (wval s2 l2 * 2 ^ (e2 - min e2 e1).toNat - wval s1 l1 * 2 ^ (e1 - min e2 e1).toNat) = DL at *
  generalize hDS : wsg (wval s2 l2 * 2 ^ (e2 - min e2 e1).toNat - wval s1 l1 * 2 ^ (e1 - min e2 e1).toNat) = DS at *
  generalize hDE : dex (wval s2 l2 * 2 ^ (e2 - min e2 e1).toNat - wval s1 l1 * 2 ^ (e1 - min e2 e1).toNat) (min e2 e1) = DE at *
  clear hDL hDS hDE
  go_wp2_with fail
  have kd := (Kept.refl 0 0 w1).drew
  replace r1 := r1.kp kd
  replace r2 := r2.kp kd
  replace qf0 := kd.loose0 (zbl q0) qf0
  replace qf1 := kd.loose0 (zbl q1) qf1
  replace qf2 := kd.loose0 (zbl q2) qf2
  replace bp0 := kd.cell0 bp0
  replace bp1 := kd.cell0 bp1
  replace bp2 := kd.cell0 bp2
  replace bp3 := kd.cell0 bp3
  replace bp4 := kd.cell0 bp4
  replace bp5 := kd.cell0 bp5
  replace q0 := kd.cell0 q0
  replace q1 := kd.cell0 q1
  replace q2 := kd.cell0 q2
  replace K := hide ((unhide K).trans kd)
  have z3 := kd.size
  clear kd
  refine wp_region_held_drew (S := (fun w' => w'.cell? ⟨w.heap.size, 0, none⟩ = some (.bool s1) ∧ w'.cell? ⟨w.heap.size, 1, none⟩ = some (.slice a1 l1.length c1) ∧ w'.cell? ⟨w.heap.size, 2, none⟩ = some (.int .i64 e1) ∧ w'.cell? ⟨w.heap.size, 3, none⟩ = some (.bool s2) ∧ w'.cell? ⟨w.heap.size, 4, none⟩ = some (.slice a2 l2.length c2) ∧ w'.cell? ⟨w.heap.size, 5, none⟩ = some (.int .i64 e2))) (by kernel_rfl) ?_ (fun hH => ?_)
  ·exact ⟨bp0, bp1, bp2, bp3, bp4, bp5⟩
  refine wpAnyH_take (i := 0) (v := .pointer (some ⟨w.heap.size, 3, none⟩)) rfl (by kernel_rfl) (by kernel_rfl) (by kernel_rfl) (fun _ _ _ h => h) (Or.inl ⟨by rfl, ?_⟩) hH ?_
  ·intro wq hSw
   try dsimp only at hSw
   go_simp
  try simp only [Act.put, zq1, zq2, zq3, zq4, zq5, zq6]
  refine wpAnyH_take (i := 1) (v := .agg #[.bool s2, .slice a2 l2.length c2, .int .i64 e2]) rfl (by kernel_rfl) (by kernel_rfl) (by kernel_rfl) (fun _ _ _ h => h) (Or.inl ⟨by rfl, ?_⟩) hH ?_
  ·intro wq hSw
   try dsimp only at hSw
   go_simp
  try simp only [Act.put, zq1, zq2, zq3, zq4, zq5, zq6]
  refine wpAnyH_take (i := 2) (v := .pointer (some ⟨w.heap.size, 0, none⟩)) rfl (by kernel_rfl) (by kernel_rfl) (by kernel_rfl) (fun _ _ _ h => h) (Or.inl ⟨by rfl, ?_⟩) hH ?_
  ·intro wq hSw
   try dsimp only at hSw
   go_simp
  try simp only [Act.put, zq1, zq2, zq3, zq4, zq5, zq6]
  refine wpAnyH_take (i := 3) (v := .agg #[.bool s1, .slice a1 l1.length c1, .int .i64 e1]) rfl (by kernel_rfl) (by kernel_rfl) (by kernel_rfl) (fun _ _ _ h => h) (Or.inl ⟨by rfl, ?_⟩) hH ?_
  ·intro wq hSw
   try dsimp only at hSw
   go_simp
  try simp only [Act.put, zq1, zq2, zq3, zq4, zq5, zq6]
  refine wpAnyH_ready (rs := [4]) (by kernel_rfl) (by simp) ?_
  refine AllReadyH.cons rfl (fun KK hK => ?_) AllReadyH.nil
  simp only [zq1, zq2, zq3]
  rw [if_pos (by rfl)]
  refine wps1 45 (.tmp 11) _ rfl in_l4neg (.agg #[.bool s1, .slice a1 l1.length c1, .int .i64 e1]) rfl (mkn _ r1) ?_
  rintro e w4 ⟨v5, rfl, r5, k4⟩
  refine ⟨_, rfl, ?_⟩
  replace r1 := r1.kp k4
  replace r2 := r2.kp k4
  replace qf0 := k4.loose0 (zbl q0) qf0
  replace qf1 := k4.loose0 (zbl q1) qf1
  replace qf2 := k4.loose0 (zbl q2) qf2
  replace bp0 := k4.cell0 bp0
  replace bp1 := k4.cell0 bp1
  replace bp2 := k4.cell0 bp2
  replace bp3 := k4.cell0 bp3
  replace bp4 := k4.cell0 bp4
  replace bp5 := k4.cell0 bp5
  replace q0 := k4.cell0 q0
  replace q1 := k4.cell0 q1
  replace q2 := k4.cell0 q2
  replace K := hide ((unhide K).trans k4)
  have z5 := k4.size
  clear k4
  clear hH
  refine hK.out _ _ ?_ (fun hH => ?_)
  ·exact ⟨bp0, bp1, bp2, bp3, bp4, bp5⟩
  clear hK KK
  try simp only [Act.put, zq1, zq2, zq3, zq4, zq5, zq6]
  refine wpAnyH_ready (rs := [5]) (by kernel_rfl) (by simp) ?_
  refine AllReadyH.cons rfl (fun KK hK => ?_) AllReadyH.nil
  simp only [zq1, zq2, zq3]
  rw [if_pos (by rfl)]
  refine wps2 44 (.tmp 9) (.tmp 12) _ rfl in_l4add (.agg #[.bool s2, .slice a2 l2.length c2, .int .i64 e2]) (.agg #[.bool sy, v5, .int .i64 e1]) rfl rfl (mka _ _ _ r2 r5) ?_
  rintro e w6 ⟨v6, rfl, r6, k6⟩
  refine ⟨_, rfl, ?_⟩
  replace r1 := r1.kp k6
  replace r2 := r2.kp k6
  replace r5 := r5.kp k6
  replace qf0 := k6.loose0 (zbl q0) qf0
  replace qf1 := k6.loose0 (zbl q1) qf1
  replace qf2 := k6.loose0 (zbl q2) qf2
  replace bp0 := k6.cell0 bp0
  replace bp1 := k6.cell0 bp1
  replace bp2 := k6.cell0 bp2
  replace bp3 := k6.cell0 bp3
  replace bp4 := k6.cell0 bp4
  replace bp5 := k6.cell0 bp5
  replace q0 := k6.cell0 q0
  replace q1 := k6.cell0 q1
  replace q2 := k6.cell0 q2
  replace K := hide ((unhide K).trans k6)
  have z7 := k6.size
  clear k6
  clear hH
  refine hK.out _ _ ?_ (fun hH => ?_)
  ·exact ⟨bp0, bp1, bp2, bp3, bp4, bp5⟩
  clear hK KK
  try simp only [Act.put, zq1, zq2, zq3, zq4, zq5, zq6]
  refine wpAnyH_ready (rs := [6]) (by kernel_rfl) (by simp) ?_
  refine AllReadyH.cons rfl (fun KK hK => ?_) AllReadyH.nil
  simp only [zq1, zq2, zq3]
  rw [if_pos (by rfl)]
  refine wps1 43 (.tmp 13) _ rfl in_l4fits (.agg #[.bool DS, v6, .int .i64 DE]) rfl (mkf _ _ _ r6) ?_
  rintro e w8 ⟨v8, rfl, r8, k8⟩
  refine ⟨_, rfl, ?_⟩
  replace r1 := r1.kp k8
  replace r2 := r2.kp k8
  replace r5 := r5.kp k8
  replace r6 := r6.kp k8
  replace qf0 := k8.loose0 (zbl q0) qf0
  replace qf1 := k8.loose0 (zbl q1) qf1
  replace qf2 := k8.loose0 (zbl q2) qf2
  replace bp0 := k8.cell0 bp0
  replace bp1 := k8.cell0 bp1
  replace bp2 := k8.cell0 bp2
  replace bp3 := k8.cell0 bp3
  replace bp4 := k8.cell0 bp4
  replace bp5 := k8.cell0 bp5
  replace q0 := k8.cell0 q0
  replace q1 := k8.cell0 q1
  replace q2 := k8.cell0 q2
  replace K := hide ((unhide K).trans k8)
  have z9 := k8.size
  clear k8
  clear hH
  refine hK.out _ _ ?_ (fun hH => ?_)
  ·exact ⟨bp0, bp1, bp2, bp3, bp4, bp5⟩
  clear hK KK
  try simp only [Act.put, zq1, zq2, zq3, zq4, zq5, zq6]
  obtain ⟨a8, c8, hv⟩ := Row.form' r8
  subst hv
  refine wpAnyH_take (i := 7) (v := .agg #[.bool GS, .slice a8 GL.length c8, .int .i64 GE]) rfl (by kernel_rfl) (by kernel_rfl) (by kernel_rfl) (fun _ _ _ h => h) (Or.inl ⟨by rfl, ?_⟩) hH ?_
  ·intro wq hSw
   try dsimp only at hSw
   go_simp
  try simp only [Act.put, zq1, zq2, zq3, zq4, zq5, zq6]
  refine wpAnyH_take (i := 8) (v := .bool GB) rfl (by kernel_rfl) (by kernel_rfl) (by kernel_rfl) (fun _ _ _ h => h) (Or.inl ⟨by rfl, ?_⟩) hH ?_
  ·intro wq hSw
   try dsimp only at hSw
   go_simp
  try simp only [Act.put, zq1, zq2, zq3, zq4, zq5, zq6]
  refine wpAnyH_ready (rs := [9]) (by kernel_rfl) (by simp) ?_
  refine AllReadyH.cons rfl (fun KK hK => ?_) AllReadyH.nil
  simp only [zq1, zq2, zq3]
  rw [if_pos (by rfl)]
  go_simp
  clear hH
  refine hK.out _ _ ?_ (fun hH => ?_)
  ·exact ⟨(cw3 (by have := unhide S0; dsimp only; omega) bp0), (cw3 (by have := unhide S0; dsimp only; omega) bp1), (cw3 (by have := unhide S0; dsimp only; omega) bp2), (cw3 (by have := unhide S0; dsimp only; omega) bp3), (cw3 (by have := unhide S0; dsimp only; omega) bp4), (cw3 (by have := unhide S0; dsimp only; omega) bp5)⟩
  clear hK KK
  try simp only [Act.put, zq1, zq2, zq3, zq4, zq5, zq6]
  refine wpAnyH_take (i := 10) (v := .bool GB) rfl (by kernel_rfl) (by kernel_rfl) (by kernel_rfl) (fun _ _ _ h => h) (Or.inl ⟨by rfl, ?_⟩) hH ?_
  ·intro wq hSw
   try dsimp only at hSw
   go_simp
  try simp only [Act.put, zq1, zq2, zq3, zq4, zq5, zq6]
  refine wpAnyH_done (by kernel_rfl) ?_ _
  clear hH
  clear mkn mka mkf
  have R := hide ((((r8.set_other (p := ⟨w.heap.size + 1, 0, none⟩) (.inl (by have := unhide S0; dsimp only; omega)) (.bool GS)).set_other (p := ⟨w.heap.size + 1, 1, none⟩) (.inl (by have := unhide S0; dsimp only; omega)) (.slice a8 GL.length c8)).set_other (p := ⟨w.heap.size + 1, 2, none⟩) (.inl (by have := unhide S0; dsimp only; omega)) (.int .i64 GE)).tight.wider (lo' := w.heap.size) (by have := unhide S0; omega) (Nat.le_refl _))
  have K7 := hide ((((unhide K).setNew (p := ⟨w.heap.size + 1, 0, none⟩) (by simp) (.bool GS)).setNew (p := ⟨w.heap.size + 1, 1, none⟩) (by simp) (.slice a8 GL.length c8)).setNew (p := ⟨w.heap.size + 1, 2, none⟩) (by simp) (.int .i64 GE))
  clear r1 r2 r5 r6 r8 K 
  go_wp2_with fail
  exact bodyPost_ret (v := .tuple #[.agg #[.bool GS, .slice a8 GL.length c8, .int .i64 GE], .bool GB]) (by simp [results, Tryd.results22, go_sem, q0, q1, q2]) rfl ⟨_, rfl, unhide R, unhide K7⟩

end Go.Proofs.YtbihbloknmjfjaaDoor
