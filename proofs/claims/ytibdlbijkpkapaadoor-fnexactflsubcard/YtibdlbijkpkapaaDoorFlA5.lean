/-
  Sums of floats: the model's l5add.
-/
import Derived.Test.YtibdlbijkpkapaaDoorFlA3
import Derived.Deep.RegionHeld3
import Derived.Deep.DeepCutAuto
namespace Go.Proofs.YtibdlbijkpkapaaDoor
open Go.RowKit
set_option linter.unusedVariables false
set_option maxRecDepth 8000
set_option linter.unusedSimpArgs false

theorem in_l5dy_m : ∀ (w : World) (args : Array Value), (callFunc 26 args).run Tryd.prog w = .ok (.enter 26 args) w := enters Tryd.func26 (by decide) (fun h => by cases h)

theorem in_l4add_m : ∀ (w : World) (args : Array Value), (callFunc 25 args).run Tryd.prog w = .ok (.enter 25 args) w := enters Tryd.func25 (by decide) (fun h => by cases h)

theorem in_l5round_m : ∀ (w : World) (args : Array Value), (callFunc 24 args).run Tryd.prog w = .ok (.enter 24 args) w := enters Tryd.func24 (by decide) (fun h => by cases h)

theorem nan_kept (w : World) : Calls Tryd.prog 23 #[] w fun r w' => r = .returned (flv 3 false 0 0) ∧ Kept 0 0 w w' :=
  (l5nan_any w).mono (fun e w' h => ⟨h.1, by rw [h.2]; exact (Kept.refl 0 0 w).alloc _⟩)
theorem dok_fl (F e : Int) (h1 : F.natAbs < 2 ^ 64) (h2 : -2900 ≤ e) (h3 : e ≤ 2900) : dokB (wsg F) (dlm F) (dex F e) = true := by
  have := ok_ans F e h1 h2 h3
  unfold ansDB at this
  simpa using this
set_option maxHeartbeats 2000000 in
theorem addS_num_num (n1 : Bool) (m1 e1 : Int) (n2 : Bool) (m2 e2 : Int) (a11 : -1074 ≤ e1) (a21 : e1 ≤ 971) (a31 : 1 ≤ m1) (a41 : m1 ≤ 9007199254740991) (a12 : -1074 ≤ e2) (a22 : e2 ≤ 971) (a32 : 1 ≤ m2) (a42 : m2 ≤ 9007199254740991) (mode : Int) (hm0 : 0 ≤ mode) (hm4 : mode ≤ 4) (w : World) :
    Calls Tryd.prog 13 #[flv 1 n1 m1 e1, flv 1 n2 m2 e2, .int .i64 mode] w fun e' w' => e' = .returned (.tuple #[flq (addQ 1 n1 m1 e1 1 n2 m2 e2 mode).1, .int .i64 (addQ 1 n1 m1 e1 1 n2 m2 e2 mode).2]) ∧ Kept 0 0 w w' := by
  obtain ⟨Q, hQ⟩ : ∃ q, addQ 1 n1 m1 e1 1 n2 m2 e2 mode = q := ⟨_, rfl⟩
  rw [hQ]
  have HQ := hide hQ
  clear hQ
  obtain ⟨Wn, hn0⟩ : ∃ wz, wz = (((w.alloc (.cells #[.int .i64 1, .bool n1, .int .i64 m1, .int .i64 e1] 24)).alloc (.cells #[.int .i64 1, .bool n2, .int .i64 m2, .int .i64 e2] 24)).alloc (.cells #[.int .i64 0, .bool false, .int .i64 0, .int .i64 0] 24)) := ⟨_, rfl⟩
  have k0 : Kept 0 0 w Wn := by rw [hn0]; exact ((((Kept.refl 0 0 w).alloc _).alloc _).alloc _)
  have p0 : Wn.cell? ⟨w.heap.size, 0, none⟩ = some (.int .i64 1) := by rw [hn0]; exact old_cell _ (old_cell _ (new_cell2 _ _ _ _ _ _ (by simp) rfl))
  have p1 : Wn.cell? ⟨w.heap.size, 1, none⟩ = some (.bool n1) := by rw [hn0]; exact old_cell _ (old_cell _ (new_cell2 _ _ _ _ _ _ (by simp) rfl))
  have p2 : Wn.cell? ⟨w.heap.size, 2, none⟩ = some (.int .i64 m1) := by rw [hn0]; exact old_cell _ (old_cell _ (new_cell2 _ _ _ _ _ _ (by simp) rfl))
  have p3 : Wn.cell? ⟨w.heap.size, 3, none⟩ = some (.int .i64 e1) := by rw [hn0]; exact old_cell _ (old_cell _ (new_cell2 _ _ _ _ _ _ (by simp) rfl))
  have t0 : Wn.cell? ⟨w.heap.size + 1, 0, none⟩ = some (.int .i64 1) := by rw [hn0]; exact old_cell _ (new_cell2 _ _ _ _ _ _ (by simp) rfl)
  have t1 : Wn.cell? ⟨w.heap.size + 1, 1, none⟩ = some (.bool n2) := by rw [hn0]; exact old_cell _ (new_cell2 _ _ _ _ _ _ (by simp) rfl)
  have t2 : Wn.cell? ⟨w.heap.size + 1, 2, none⟩ = some (.int .i64 m2) := by rw [hn0]; exact old_cell _ (new_cell2 _ _ _ _ _ _ (by simp) rfl)
  have t3 : Wn.cell? ⟨w.heap.size + 1, 3, none⟩ = some (.int .i64 e2) := by rw [hn0]; exact old_cell _ (new_cell2 _ _ _ _ _ _ (by simp) rfl)
  have q0 : Wn.cell? ⟨w.heap.size + 2, 0, none⟩ = some (.int .i64 0) := by rw [hn0]; exact new_cell2 _ _ _ _ _ _ (by simp) rfl
  have qf0 : Wn.frozen? ⟨w.heap.size + 2, 0, none⟩ = false := by rw [hn0]; exact new_loose2 _ _ _ _ _ (by simp)
  have q1 : Wn.cell? ⟨w.heap.size + 2, 1, none⟩ = some (.bool false) := by rw [hn0]; exact new_cell2 _ _ _ _ _ _ (by simp) rfl
  have qf1 : Wn.frozen? ⟨w.heap.size + 2, 1, none⟩ = false := by rw [hn0]; exact new_loose2 _ _ _ _ _ (by simp)
  have q2 : Wn.cell? ⟨w.heap.size + 2, 2, none⟩ = some (.int .i64 0) := by rw [hn0]; exact new_cell2 _ _ _ _ _ _ (by simp) rfl
  have qf2 : Wn.frozen? ⟨w.heap.size + 2, 2, none⟩ = false := by rw [hn0]; exact new_loose2 _ _ _ _ _ (by simp)
  have q3 : Wn.cell? ⟨w.heap.size + 2, 3, none⟩ = some (.int .i64 0) := by rw [hn0]; exact new_cell2 _ _ _ _ _ _ (by simp) rfl
  have qf3 : Wn.frozen? ⟨w.heap.size + 2, 3, none⟩ = false := by rw [hn0]; exact new_loose2 _ _ _ _ _ (by simp)
  have s0 : Wn.heap.size = w.heap.size + 3 := by rw [hn0]; exact by simp
  subst hn0
  have K := hide (k0)
  clear k0
  have S0 := hide s0
  clear s0
  go_enter Tryd.func13, Tryd.ntmps13
  obtain ⟨MD, hMD⟩ : ∃ y, (mode == 3) = y := ⟨_, rfl⟩
  go_wp2_with fail
  generalize (((w.alloc (.cells #[.int .i64 1, .bool n1, .int .i64 m1, .int .i64 e1] 24)).alloc (.cells #[.int .i64 1, .bool n2, .int .i64 m2, .int .i64 e2] 24)).alloc (.cells #[.int .i64 0, .bool false, .int .i64 0, .int .i64 0] 24)) = W at *
  have ab1 : (fM 1 n1 m1).natAbs < 2 ^ 64 := fM_abs _ _ (by omega) (by omega)
  have ab2 : (fM 1 n2 m2).natAbs < 2 ^ 64 := fM_abs _ _ (by omega) (by omega)
  have ok1 := dok_fl (fM 1 n1 m1) e1 ab1 (by omega) (by omega)
  have ok2 := dok_fl (fM 1 n2 m2) e2 ab2 (by omega) (by omega)
  have md1 := fun w => dy5_num n1 m1 e1 a11 a21 a31 a41 w
  have md2 := fun w => dy5_num n2 m2 e2 a12 a22 a32 a42 w
  obtain ⟨s1, hs1⟩ : ∃ y, wsg (fM 1 n1 m1) = y := ⟨_, rfl⟩
  obtain ⟨s2, hs2⟩ : ∃ y, wsg (fM 1 n2 m2) = y := ⟨_, rfl⟩
  obtain ⟨z1, hz1⟩ : ∃ y, dlm (fM 1 n1 m1) = y := ⟨_, rfl⟩
  obtain ⟨z2, hz2⟩ : ∃ y, dlm (fM 1 n2 m2) = y := ⟨_, rfl⟩
  obtain ⟨x1, hx1⟩ : ∃ y, dex (fM 1 n1 m1) e1 = y := ⟨_, rfl⟩
  obtain ⟨x2, hx2⟩ : ∃ y, dex (fM 1 n2 m2) e2 = y := ⟨_, rfl⟩
  obtain ⟨M, hM⟩ : ∃ y, wval s1 z1 * 2 ^ (x1 - min x1 x2).toNat + wval s2 z2 * 2 ^ (x2 - min x1 x2).toNat = y := ⟨_, rfl⟩
  obtain ⟨X, hX⟩ : ∃ y, min x1 x2 = y := ⟨_, rfl⟩
  have hfn : ∀ (n : Bool) {m : Int}, 1 ≤ m → (fM 1 n m).natAbs = m.toNat := fun n m h => by unfold fM; cases n <;> simp <;> omega
  have jj := add_fin mode MD (fM 1 n1 m1) (fM 1 n2 m2) e1 e2 M X _ _ (fun h => by have h9 := hfn n1 a31; rw [h] at h9; simp at h9; omega) (fun h => by have h9 := hfn n2 a32; rw [h] at h9; simp at h9; omega) (.inr trivial) (by rw [← hM, ← hs1, ← hs2, ← hz1, ← hz2, ← hx1, ← hx2]) (by rw [← hX, ← hx1, ← hx2]) rfl rfl
  have hq : rndQ mode (fM 1 n1 m1 * 2 ^ (e1 - min e1 e2).toNat + fM 1 n2 m2 * 2 ^ (e2 - min e1 e2).toNat) (min e1 e2) MD = Q := by
   rw [← unhide HQ, ← hMD]
   unfold addQ
   simp
  rw [hq] at jj
  have hxb : -3000 ≤ x1 ∧ x1 ≤ 3000 ∧ -3000 ≤ x2 ∧ x2 ≤ 3000 := by
   have g1 := (dok_parts ok1).2
   have g2 := (dok_parts ok2).2
   rw [hx1] at g1
   rw [hx2] at g2
   omega
  rw [hs1, hz1, hx1] at ok1
  rw [hs2, hz2, hx2] at ok2
  obtain ⟨AA, hAA⟩ : ∃ A : Nat, A = 7600 := ⟨_, rfl⟩
  have hMb : M.natAbs < 2 ^ (AA + 1) := by
   have g1 := wok_int (dok_parts ok1).1
   have g2 := wok_int (dok_parts ok2).1
   rw [← hM]
   exact add_lt (al_lt g1.2.2.2.1 g1.2.2.1 _ (by omega) hAA) (al_lt g2.2.2.2.1 g2.2.2.1 _ (by omega) hAA)
  have hdM : -20000 ≤ dex M X ∧ dex M X ≤ 20000 := by
   unfold dex
   split
   ·omega
   ·rename_i hne
    have := tz_lt (n := M.natAbs) (by omega) hMb
    omega
  have hlM : (dlm M).length ≤ 500 := Nat.le_trans (dlm_len (M := M) rfl) (wlm_len hMb (by omega))
  simp only [hs1, hz1, hx1] at md1
  simp only [hs2, hz2, hx2] at md2
  obtain ⟨A, hA⟩ : ∃ y, flA mode (wsg M) (val (dlm M)).toNat (dex M X) = y := ⟨_, rfl⟩
  obtain ⟨GG, hGG⟩ : ∃ y, flG mode (wsg M) (val (dlm M)).toNat (dex M X) = y := ⟨_, rfl⟩
  obtain ⟨SG, hSG⟩ : ∃ y, (if (val (dlm M)).toNat = 0 then MD else wsg M) = y := ⟨_, rfl⟩
  rw [hA, hGG, hSG] at jj
  have FQ : Hid (Q = ((A.1, SG, A.2.1, A.2.2), GG)) := jj.symm
  have HA := hide hA
  have HGG := hide hGG
  have HJ := hide hSG
  have HM := hide hM
  have HX := hide hX
  replace md1 := hide md1
  replace md2 := hide md2
  clear hs1 hs2 hz1 hz2 hx1 hx2 hA hGG hSG jj hq hM hX hMb ab1 ab2 hAA hfn
  have n_qf0 := qf0
  have n_q0 := q0
  have n_qf1 := qf1
  have n_q1 := q1
  have n_qf2 := qf2
  have n_q2 := q2
  have n_qf3 := qf3
  have n_q3 := q3
  have kd := (Kept.refl 0 0 W).drew
  replace qf0 := kd.loose0 (zbl q0) qf0
  replace qf1 := kd.loose0 (zbl q1) qf1
  replace qf2 := kd.loose0 (zbl q2) qf2
  replace qf3 := kd.loose0 (zbl q3) qf3
  replace p0 := kd.cell0 p0
  replace p1 := kd.cell0 p1
  replace p2 := kd.cell0 p2
  replace p3 := kd.cell0 p3
  replace t0 := kd.cell0 t0
  replace t1 := kd.cell0 t1
  replace t2 := kd.cell0 t2
  replace t3 := kd.cell0 t3
  replace q0 := kd.cell0 q0
  replace q1 := kd.cell0 q1
  replace q2 := kd.cell0 q2
  replace q3 := kd.cell0 q3
  replace K := hide ((unhide K).trans kd)
  have z1 := kd.size
  clear kd
  refine wp_region_held_drew (S := (fun w' => w'.cell? ⟨w.heap.size, 0, none⟩ = some (.int .i64 1) ∧ w'.cell? ⟨w.heap.size, 1, none⟩ = some (.bool n1) ∧ w'.cell? ⟨w.heap.size, 2, none⟩ = some (.int .i64 m1) ∧ w'.cell? ⟨w.heap.size, 3, none⟩ = some (.int .i64 e1) ∧ w'.cell? ⟨w.heap.size + 1, 0, none⟩ = some (.int .i64 1) ∧ w'.cell? ⟨w.heap.size + 1, 1, none⟩ = some (.bool n2) ∧ w'.cell? ⟨w.heap.size + 1, 2, none⟩ = some (.int .i64 m2) ∧ w'.cell? ⟨w.heap.size + 1, 3, none⟩ = some (.int .i64 e2))) (by kernel_rfl) ?_ (fun hH => ?_)
  ·exact ⟨p0, p1, p2, p3, t0, t1, t2, t3⟩
  refine wpAnyH_take (i := 0) (v := .agg #[.int .i64 1, .bool n1, .int .i64 m1, .int .i64 e1]) rfl (by kernel_rfl) (by kernel_rfl) (by kernel_rfl) (fun _ _ _ h => h) (Or.inl ⟨by rfl, ?_⟩) hH ?_
  ·intro wq hSw
   try dsimp only at hSw
   go_simp
  try simp only [Act.put, zq1, zq2, zq3, zq4, zq5, zq6]
  refine wpAnyH_take (i := 2) (v := .agg #[.int .i64 1, .bool n2, .int .i64 m2, .int .i64 e2]) rfl (by kernel_rfl) (by kernel_rfl) (by kernel_rfl) (fun _ _ _ h => h) (Or.inl ⟨by rfl, ?_⟩) hH ?_
  ·intro wq hSw
   try dsimp only at hSw
   go_simp
  try simp only [Act.put, zq1, zq2, zq3, zq4, zq5, zq6]
  refine wpAnyH_take (i := 5) (v := .int .i64 mode) rfl (by kernel_rfl) (by kernel_rfl) (by kernel_rfl) (fun _ _ _ h => h) (Or.inl ⟨by rfl, ?_⟩) hH ?_
  ·intro wq hSw
   try dsimp only at hSw
   go_simp
  try simp only [Act.put, zq1, zq2, zq3, zq4, zq5, zq6]
  refine wpAnyH_take (i := 6) (v := .bool MD) rfl (by kernel_rfl) (by kernel_rfl) (by kernel_rfl) (fun _ _ _ h => h) (Or.inl ⟨by rfl, ?_⟩) hH ?_
  ·intro wq hSw
   try dsimp only at hSw
   go_simp
  try simp only [Act.put, zq1, zq2, zq3, zq4, zq5, zq6]
  refine wpAnyH_ready (rs := [1]) (by kernel_rfl) (by simp) ?_
  refine AllReadyH.cons rfl (fun KK hK => ?_) AllReadyH.nil
  simp only [zq1, zq2, zq3]
  rw [if_pos (by rfl)]
  refine wps1 26 (.tmp 67) _ rfl in_l5dy_m (.agg #[.int .i64 1, .bool n1, .int .i64 m1, .int .i64 e1]) rfl (unhide md1 _) ?_
  rintro e w2 ⟨v1, rfl, r1, k2⟩
  refine ⟨_, rfl, ?_⟩
  replace qf0 := k2.loose0 (zbl q0) qf0
  replace qf1 := k2.loose0 (zbl q1) qf1
  replace qf2 := k2.loose0 (zbl q2) qf2
  replace qf3 := k2.loose0 (zbl q3) qf3
  replace p0 := k2.cell0 p0
  replace p1 := k2.cell0 p1
  replace p2 := k2.cell0 p2
  replace p3 := k2.cell0 p3
  replace t0 := k2.cell0 t0
  replace t1 := k2.cell0 t1
  replace t2 := k2.cell0 t2
  replace t3 := k2.cell0 t3
  replace q0 := k2.cell0 q0
  replace q1 := k2.cell0 q1
  replace q2 := k2.cell0 q2
  replace q3 := k2.cell0 q3
  replace K := hide ((unhide K).trans k2)
  have z3 := k2.size
  clear k2
  clear hH
  refine hK.out _ _ ?_ (fun hH => ?_)
  ·exact ⟨p0, p1, p2, p3, t0, t1, t2, t3⟩
  clear hK KK
  try simp only [Act.put, zq1, zq2, zq3, zq4, zq5, zq6]
  refine wpAnyH_ready (rs := [3]) (by kernel_rfl) (by simp) ?_
  refine AllReadyH.cons rfl (fun KK hK => ?_) AllReadyH.nil
  simp only [zq1, zq2, zq3]
  rw [if_pos (by rfl)]
  refine wps1 26 (.tmp 69) _ rfl in_l5dy_m (.agg #[.int .i64 1, .bool n2, .int .i64 m2, .int .i64 e2]) rfl (unhide md2 _) ?_
  rintro e w4 ⟨v2, rfl, r2, k4⟩
  refine ⟨_, rfl, ?_⟩
  replace r1 := r1.kp k4
  replace qf0 := k4.loose0 (zbl q0) qf0
  replace qf1 := k4.loose0 (zbl q1) qf1
  replace qf2 := k4.loose0 (zbl q2) qf2
  replace qf3 := k4.loose0 (zbl q3) qf3
  replace p0 := k4.cell0 p0
  replace p1 := k4.cell0 p1
  replace p2 := k4.cell0 p2
  replace p3 := k4.cell0 p3
  replace t0 := k4.cell0 t0
  replace t1 := k4.cell0 t1
  replace t2 := k4.cell0 t2
  replace t3 := k4.cell0 t3
  replace q0 := k4.cell0 q0
  replace q1 := k4.cell0 q1
  replace q2 := k4.cell0 q2
  replace q3 := k4.cell0 q3
  replace K := hide ((unhide K).trans k4)
  have z5 := k4.size
  clear k4
  clear hH
  refine hK.out _ _ ?_ (fun hH => ?_)
  ·exact ⟨p0, p1, p2, p3, t0, t1, t2, t3⟩
  clear hK KK
  try simp only [Act.put, zq1, zq2, zq3, zq4, zq5, zq6]
  refine wpAnyH_ready (rs := [4]) (by kernel_rfl) (by simp) ?_
  refine AllReadyH.cons rfl (fun KK hK => ?_) AllReadyH.nil
  simp only [zq1, zq2, zq3]
  rw [if_pos (by rfl)]
  refine wps2 25 (.tmp 68) (.tmp 70) _ rfl in_l4add_m (.agg #[.bool s1, v1, .int .i64 x1]) (.agg #[.bool s2, v2, .int .i64 x2]) rfl rfl (add4_spec s1 s2 x1 x2 _ r1 r2 ok1 ok2) ?_
  rintro e w6 ⟨v3, rfl, r3, k6⟩
  refine ⟨_, rfl, ?_⟩
  replace r1 := r1.kp k6
  replace r2 := r2.kp k6
  replace qf0 := k6.loose0 (zbl q0) qf0
  replace qf1 := k6.loose0 (zbl q1) qf1
  replace qf2 := k6.loose0 (zbl q2) qf2
  replace qf3 := k6.loose0 (zbl q3) qf3
  replace p0 := k6.cell0 p0
  replace p1 := k6.cell0 p1
  replace p2 := k6.cell0 p2
  replace p3 := k6.cell0 p3
  replace t0 := k6.cell0 t0
  replace t1 := k6.cell0 t1
  replace t2 := k6.cell0 t2
  replace t3 := k6.cell0 t3
  replace q0 := k6.cell0 q0
  replace q1 := k6.cell0 q1
  replace q2 := k6.cell0 q2
  replace q3 := k6.cell0 q3
  replace K := hide ((unhide K).trans k6)
  have z7 := k6.size
  clear k6
  clear hH
  refine hK.out _ _ ?_ (fun hH => ?_)
  ·exact ⟨p0, p1, p2, p3, t0, t1, t2, t3⟩
  clear hK KK
  try simp only [Act.put, zq1, zq2, zq3, zq4, zq5, zq6]
  rw [unhide HM] at r3
  rw [unhide HM, unhide HX]
  refine wpAnyH_ready (rs := [7]) (by kernel_rfl) (by simp) ?_
  refine AllReadyH.cons rfl (fun KK hK => ?_) AllReadyH.nil
  simp only [zq1, zq2, zq3]
  rw [if_pos (by rfl)]
  refine wps3 24 (.tmp 71) (.tmp 72) (.tmp 73) _ rfl in_l5round_m (.agg #[.bool (wsg M), v3, .int .i64 (dex M X)]) (.int .i64 mode) (.bool MD) rfl rfl rfl (l5round_spec (wsg M) (dex M X) (by omega) (by omega) _ r3 (wn_dlm M) (odd_dlm M) (dex_nil M X) (by omega) mode hm0 hm4 MD) ?_
  rintro e w8 ⟨rfl, k8⟩
  refine ⟨_, rfl, ?_⟩
  replace r1 := r1.kp k8
  replace r2 := r2.kp k8
  replace r3 := r3.kp k8
  replace qf0 := k8.loose0 (zbl q0) qf0
  replace qf1 := k8.loose0 (zbl q1) qf1
  replace qf2 := k8.loose0 (zbl q2) qf2
  replace qf3 := k8.loose0 (zbl q3) qf3
  replace p0 := k8.cell0 p0
  replace p1 := k8.cell0 p1
  replace p2 := k8.cell0 p2
  replace p3 := k8.cell0 p3
  replace t0 := k8.cell0 t0
  replace t1 := k8.cell0 t1
  replace t2 := k8.cell0 t2
  replace t3 := k8.cell0 t3
  replace q0 := k8.cell0 q0
  replace q1 := k8.cell0 q1
  replace q2 := k8.cell0 q2
  replace q3 := k8.cell0 q3
  replace K := hide ((unhide K).trans k8)
  have z9 := k8.size
  clear k8
  clear hH
  refine hK.out _ _ ?_ (fun hH => ?_)
  ·exact ⟨p0, p1, p2, p3, t0, t1, t2, t3⟩
  clear hK KK
  try simp only [Act.put, zq1, zq2, zq3, zq4, zq5, zq6]
  rw [unhide HA, unhide HGG, unhide HJ]
  refine wpAnyH_take (i := 8) (v := .agg #[.int .i64 A.1, .bool SG, .int .i64 A.2.1, .int .i64 A.2.2]) rfl (by kernel_rfl) (by kernel_rfl) (by kernel_rfl) (fun _ _ _ h => h) (Or.inl ⟨by rfl, ?_⟩) hH ?_
  ·intro wq hSw
   try dsimp only at hSw
   go_simp
  try simp only [Act.put, zq1, zq2, zq3, zq4, zq5, zq6]
  refine wpAnyH_take (i := 9) (v := .int .i64 GG) rfl (by kernel_rfl) (by kernel_rfl) (by kernel_rfl) (fun _ _ _ h => h) (Or.inl ⟨by rfl, ?_⟩) hH ?_
  ·intro wq hSw
   try dsimp only at hSw
   go_simp
  try simp only [Act.put, zq1, zq2, zq3, zq4, zq5, zq6]
  refine wpAnyH_ready (rs := [10]) (by kernel_rfl) (by simp) ?_
  refine AllReadyH.cons rfl (fun KK hK => ?_) AllReadyH.nil
  simp only [zq1, zq2, zq3]
  rw [if_pos (by rfl)]
  go_simp
  clear hH
  refine hK.out _ _ ?_ (fun hH => ?_)
  ·exact ⟨(cell_aside _ (by have := unhide S0; dsimp only; omega) (cw3 (by have := unhide S0; dsimp only; omega) p0)), (cell_aside _ (by have := unhide S0; dsimp only; omega) (cw3 (by have := unhide S0; dsimp only; omega) p1)), (cell_aside _ (by have := unhide S0; dsimp only; omega) (cw3 (by have := unhide S0; dsimp only; omega) p2)), (cell_aside _ (by have := unhide S0; dsimp only; omega) (cw3 (by have := unhide S0; dsimp only; omega) p3)), (cell_aside _ (by have := unhide S0; dsimp only; omega) (cw3 (by have := unhide S0; dsimp only; omega) t0)), (cell_aside _ (by have := unhide S0; dsimp only; omega) (cw3 (by have := unhide S0; dsimp only; omega) t1)), (cell_aside _ (by have := unhide S0; dsimp only; omega) (cw3 (by have := unhide S0; dsimp only; omega) t2)), (cell_aside _ (by have := unhide S0; dsimp only; omega) (cw3 (by have := unhide S0; dsimp only; omega) t3))⟩
  clear hK KK
  try simp only [Act.put, zq1, zq2, zq3, zq4, zq5, zq6]
  refine wpAnyH_take (i := 11) (v := .int .i64 GG) rfl (by kernel_rfl) (by kernel_rfl) (by kernel_rfl) (fun _ _ _ h => h) (Or.inl ⟨by rfl, ?_⟩) hH ?_
  ·intro wq hSw
   try dsimp only at hSw
   go_simp
  try simp only [Act.put, zq1, zq2, zq3, zq4, zq5, zq6]
  refine wpAnyH_done (by kernel_rfl) ?_ _
  clear hH
  have KF := hide (((((unhide K).setNew (p := ⟨w.heap.size + 2, 0, none⟩) (by simp) (.int .i64 A.1)).setNew (p := ⟨w.heap.size + 2, 1, none⟩) (by simp) (.bool SG)).setNew (p := ⟨w.heap.size + 2, 2, none⟩) (by simp) (.int .i64 A.2.1)).setNew (p := ⟨w.heap.size + 2, 3, none⟩) (by simp) (.int .i64 A.2.2))
  clear r1 r2 r3 K
  try go_wp2_with fail
  exact bodyPost_ret (v := .tuple #[.agg #[.int .i64 A.1, .bool SG, .int .i64 A.2.1, .int .i64 A.2.2], .int .i64 GG]) (by simp [results, Tryd.results13, go_sem, q0, q1, q2, q3]) rfl ⟨by rw [unhide FQ], unhide KF⟩

set_option maxHeartbeats 2000000 in
theorem addS_num_nought (n1 : Bool) (m1 e1 : Int) (n2 : Bool) (a11 : -1074 ≤ e1) (a21 : e1 ≤ 971) (a31 : 1 ≤ m1) (a41 : m1 ≤ 9007199254740991) (mode : Int) (hm0 : 0 ≤ mode) (hm4 : mode ≤ 4) (w : World) :
    Calls Tryd.prog 13 #[flv 1 n1 m1 e1, flv 0 n2 0 0, .int .i64 mode] w fun e' w' => e' = .returned (.tuple #[flq (addQ 1 n1 m1 e1 0 n2 0 0 mode).1, .int .i64 (addQ 1 n1 m1 e1 0 n2 0 0 mode).2]) ∧ Kept 0 0 w w' := by
  obtain ⟨Q, hQ⟩ : ∃ q, addQ 1 n1 m1 e1 0 n2 0 0 mode = q := ⟨_, rfl⟩
  rw [hQ]
  have HQ := hide hQ
  clear hQ
  obtain ⟨Wn, hn0⟩ : ∃ wz, wz = (((w.alloc (.cells #[.int .i64 1, .bool n1, .int .i64 m1, .int .i64 e1] 24)).alloc (.cells #[.int .i64 0, .bool n2, .int .i64 0, .int .i64 0] 24)).alloc (.cells #[.int .i64 0, .bool false, .int .i64 0, .int .i64 0] 24)) := ⟨_, rfl⟩
  have k0 : Kept 0 0 w Wn := by rw [hn0]; exact ((((Kept.refl 0 0 w).alloc _).alloc _).alloc _)
  have p0 : Wn.cell? ⟨w.heap.size, 0, none⟩ = some (.int .i64 1) := by rw [hn0]; exact old_cell _ (old_cell _ (new_cell2 _ _ _ _ _ _ (by simp) rfl))
  have p1 : Wn.cell? ⟨w.heap.size, 1, none⟩ = some (.bool n1) := by rw [hn0]; exact old_cell _ (old_cell _ (new_cell2 _ _ _ _ _ _ (by simp) rfl))
  have p2 : Wn.cell? ⟨w.heap.size, 2, none⟩ = some (.int .i64 m1) := by rw [hn0]; exact old_cell _ (old_cell _ (new_cell2 _ _ _ _ _ _ (by simp) rfl))
  have p3 : Wn.cell? ⟨w.heap.size, 3, none⟩ = some (.int .i64 e1) := by rw [hn0]; exact old_cell _ (old_cell _ (new_cell2 _ _ _ _ _ _ (by simp) rfl))
  have t0 : Wn.cell? ⟨w.heap.size + 1, 0, none⟩ = some (.int .i64 0) := by rw [hn0]; exact old_cell _ (new_cell2 _ _ _ _ _ _ (by simp) rfl)
  have t1 : Wn.cell? ⟨w.heap.size + 1, 1, none⟩ = some (.bool n2) := by rw [hn0]; exact old_cell _ (new_cell2 _ _ _ _ _ _ (by simp) rfl)
  have t2 : Wn.cell? ⟨w.heap.size + 1, 2, none⟩ = some (.int .i64 0) := by rw [hn0]; exact old_cell _ (new_cell2 _ _ _ _ _ _ (by simp) rfl)
  have t3 : Wn.cell? ⟨w.heap.size + 1, 3, none⟩ = some (.int .i64 0) := by rw [hn0]; exact old_cell _ (new_cell2 _ _ _ _ _ _ (by simp) rfl)
  have q0 : Wn.cell? ⟨w.heap.size + 2, 0, none⟩ = some (.int .i64 0) := by rw [hn0]; exact new_cell2 _ _ _ _ _ _ (by simp) rfl
  have qf0 : Wn.frozen? ⟨w.heap.size + 2, 0, none⟩ = false := by rw [hn0]; exact new_loose2 _ _ _ _ _ (by simp)
  have q1 : Wn.cell? ⟨w.heap.size + 2, 1, none⟩ = some (.bool false) := by rw [hn0]; exact new_cell2 _ _ _ _ _ _ (by simp) rfl
  have qf1 : Wn.frozen? ⟨w.heap.size + 2, 1, none⟩ = false := by rw [hn0]; exact new_loose2 _ _ _ _ _ (by simp)
  have q2 : Wn.cell? ⟨w.heap.size + 2, 2, none⟩ = some (.int .i64 0) := by rw [hn0]; exact new_cell2 _ _ _ _ _ _ (by simp) rfl
  have qf2 : Wn.frozen? ⟨w.heap.size + 2, 2, none⟩ = false := by rw [hn0]; exact new_loose2 _ _ _ _ _ (by simp)
  have q3 : Wn.cell? ⟨w.heap.size + 2, 3, none⟩ = some (.int .i64 0) := by rw [hn0]; exact new_cell2 _ _ _ _ _ _ (by simp) rfl
  have qf3 : Wn.frozen? ⟨w.heap.size + 2, 3, none⟩ = false := by rw [hn0]; exact new_loose2 _ _ _ _ _ (by simp)
  have s0 : Wn.heap.size = w.heap.size + 3 := by rw [hn0]; exact by simp
  subst hn0
  have K := hide (k0)
  clear k0
  have S0 := hide s0
  clear s0
  go_enter Tryd.func13, Tryd.ntmps13
  obtain ⟨MD, hMD⟩ : ∃ y, (mode == 3) = y := ⟨_, rfl⟩
  go_wp2_with fail
  generalize (((w.alloc (.cells #[.int .i64 1, .bool n1, .int .i64 m1, .int .i64 e1] 24)).alloc (.cells #[.int .i64 0, .bool n2, .int .i64 0, .int .i64 0] 24)).alloc (.cells #[.int .i64 0, .bool false, .int .i64 0, .int .i64 0] 24)) = W at *
  have ab1 : (fM 1 n1 m1).natAbs < 2 ^ 64 := fM_abs _ _ (by omega) (by omega)
  have ab2 : (fM 0 n2 0).natAbs < 2 ^ 64 := fM_abs _ _ (by omega) (by omega)
  have ok1 := dok_fl (fM 1 n1 m1) e1 ab1 (by omega) (by omega)
  have ok2 := dok_fl (fM 0 n2 0) (0 : Int) ab2 (by omega) (by omega)
  have md1 := fun w => dy5_num n1 m1 e1 a11 a21 a31 a41 w
  have md2 := fun w => dy5_nought n2 w
  obtain ⟨s1, hs1⟩ : ∃ y, wsg (fM 1 n1 m1) = y := ⟨_, rfl⟩
  obtain ⟨s2, hs2⟩ : ∃ y, wsg (fM 0 n2 0) = y := ⟨_, rfl⟩
  obtain ⟨z1, hz1⟩ : ∃ y, dlm (fM 1 n1 m1) = y := ⟨_, rfl⟩
  obtain ⟨z2, hz2⟩ : ∃ y, dlm (fM 0 n2 0) = y := ⟨_, rfl⟩
  obtain ⟨x1, hx1⟩ : ∃ y, dex (fM 1 n1 m1) e1 = y := ⟨_, rfl⟩
  obtain ⟨x2, hx2⟩ : ∃ y, dex (fM 0 n2 0) (0 : Int) = y := ⟨_, rfl⟩
  obtain ⟨M, hM⟩ : ∃ y, wval s1 z1 * 2 ^ (x1 - min x1 x2).toNat + wval s2 z2 * 2 ^ (x2 - min x1 x2).toNat = y := ⟨_, rfl⟩
  obtain ⟨X, hX⟩ : ∃ y, min x1 x2 = y := ⟨_, rfl⟩
  have hfn : ∀ (n : Bool) {m : Int}, 1 ≤ m → (fM 1 n m).natAbs = m.toNat := fun n m h => by unfold fM; cases n <;> simp <;> omega
  have jj := add_fin mode MD (fM 1 n1 m1) (fM 0 n2 0) e1 (0 : Int) M X _ _ (fun h => by have h9 := hfn n1 a31; rw [h] at h9; simp at h9; omega) (fun h => rfl) (.inr trivial) (by rw [← hM, ← hs1, ← hs2, ← hz1, ← hz2, ← hx1, ← hx2]) (by rw [← hX, ← hx1, ← hx2]) rfl rfl
  have hq : rndQ mode (fM 1 n1 m1 * 2 ^ (e1 - min e1 (0 : Int)).toNat + fM 0 n2 0 * 2 ^ ((0 : Int) - min e1 (0 : Int)).toNat) (min e1 (0 : Int)) MD = Q := by
   rw [← unhide HQ, ← hMD]
   unfold addQ
   simp
  rw [hq] at jj
  have hxb : -3000 ≤ x1 ∧ x1 ≤ 3000 ∧ -3000 ≤ x2 ∧ x2 ≤ 3000 := by
   have g1 := (dok_parts ok1).2
   have g2 := (dok_parts ok2).2
   rw [hx1] at g1
   rw [hx2] at g2
   omega
  rw [hs1, hz1, hx1] at ok1
  rw [hs2, hz2, hx2] at ok2
  obtain ⟨AA, hAA⟩ : ∃ A : Nat, A = 7600 := ⟨_, rfl⟩
  have hMb : M.natAbs < 2 ^ (AA + 1) := by
   have g1 := wok_int (dok_parts ok1).1
   have g2 := wok_int (dok_parts ok2).1
   rw [← hM]
   exact add_lt (al_lt g1.2.2.2.1 g1.2.2.1 _ (by omega) hAA) (al_lt g2.2.2.2.1 g2.2.2.1 _ (by omega) hAA)
  have hdM : -20000 ≤ dex M X ∧ dex M X ≤ 20000 := by
   unfold dex
   split
   ·omega
   ·rename_i hne
    have := tz_lt (n := M.natAbs) (by omega) hMb
    omega
  have hlM : (dlm M).length ≤ 500 := Nat.le_trans (dlm_len (M := M) rfl) (wlm_len hMb (by omega))
  simp only [hs1, hz1, hx1] at md1
  simp only [hs2, hz2, hx2] at md2
  obtain ⟨A, hA⟩ : ∃ y, flA mode (wsg M) (val (dlm M)).toNat (dex M X) = y := ⟨_, rfl⟩
  obtain ⟨GG, hGG⟩ : ∃ y, flG mode (wsg M) (val (dlm M)).toNat (dex M X) = y := ⟨_, rfl⟩
  obtain ⟨SG, hSG⟩ : ∃ y, (if (val (dlm M)).toNat = 0 then MD else wsg M) = y := ⟨_, rfl⟩
  rw [hA, hGG, hSG] at jj
  have FQ : Hid (Q = ((A.1, SG, A.2.1, A.2.2), GG)) := jj.symm
  have HA := hide hA
  have HGG := hide hGG
  have HJ := hide hSG
  have HM := hide hM
  have HX := hide hX
  replace md1 := hide md1
  replace md2 := hide md2
  clear hs1 hs2 hz1 hz2 hx1 hx2 hA hGG hSG jj hq hM hX hMb ab1 ab2 hAA hfn
  have n_qf0 := qf0
  have n_q0 := q0
  have n_qf1 := qf1
  have n_q1 := q1
  have n_qf2 := qf2
  have n_q2 := q2
  have n_qf3 := qf3
  have n_q3 := q3
  have kd := (Kept.refl 0 0 W).drew
  replace qf0 := kd.loose0 (zbl q0) qf0
  replace qf1 := kd.loose0 (zbl q1) qf1
  replace qf2 := kd.loose0 (zbl q2) qf2
  replace qf3 := kd.loose0 (zbl q3) qf3
  replace p0 := kd.cell0 p0
  replace p1 := kd.cell0 p1
  replace p2 := kd.cell0 p2
  replace p3 := kd.cell0 p3
  replace t0 := kd.cell0 t0
  replace t1 := kd.cell0 t1
  replace t2 := kd.cell0 t2
  replace t3 := kd.cell0 t3
  replace q0 := kd.cell0 q0
  replace q1 := kd.cell0 q1
  replace q2 := kd.cell0 q2
  replace q3 := kd.cell0 q3
  replace K := hide ((unhide K).trans kd)
  have z1 := kd.size
  clear kd
  refine wp_region_held_drew (S := (fun w' => w'.cell? ⟨w.heap.size, 0, none⟩ = some (.int .i64 1) ∧ w'.cell? ⟨w.heap.size, 1, none⟩ = some (.bool n1) ∧ w'.cell? ⟨w.heap.size, 2, none⟩ = some (.int .i64 m1) ∧ w'.cell? ⟨w.heap.size, 3, none⟩ = some (.int .i64 e1) ∧ w'.cell? ⟨w.heap.size + 1, 0, none⟩ = some (.int .i64 0) ∧ w'.cell? ⟨w.heap.size + 1, 1, none⟩ = some (.bool n2) ∧ w'.cell? ⟨w.heap.size + 1, 2, none⟩ = some (.int .i64 0) ∧ w'.cell? ⟨w.heap.size + 1, 3, none⟩ = some (.int .i64 0))) (by kernel_rfl) ?_ (fun hH => ?_)
  ·exact ⟨p0, p1, p2, p3, t0, t1, t2, t3⟩
  refine wpAnyH_take (i := 0) (v := .agg #[.int .i64 1, .bool n1, .int .i64 m1, .int .i64 e1]) rfl (by kernel_rfl) (by kernel_rfl) (by kernel_rfl) (fun _ _ _ h => h) (Or.inl ⟨by rfl, ?_⟩) hH ?_
  ·intro wq hSw
   try dsimp only at hSw
   go_simp
  try simp only [Act.put, zq1, zq2, zq3, zq4, zq5, zq6]
  refine wpAnyH_take (i := 2) (v := .agg #[.int .i64 0, .bool n2, .int .i64 0, .int .i64 0]) rfl (by kernel_rfl) (by kernel_rfl) (by kernel_rfl) (fun _ _ _ h => h) (Or.inl ⟨by rfl, ?_⟩) hH ?_
  ·intro wq hSw
   try dsimp only at hSw
   go_simp
  try simp only [Act.put, zq1, zq2, zq3, zq4, zq5, zq6]
  refine wpAnyH_take (i := 5) (v := .int .i64 mode) rfl (by kernel_rfl) (by kernel_rfl) (by kernel_rfl) (fun _ _ _ h => h) (Or.inl ⟨by rfl, ?_⟩) hH ?_
  ·intro wq hSw
   try dsimp only at hSw
   go_simp
  try simp only [Act.put, zq1, zq2, zq3, zq4, zq5, zq6]
  refine wpAnyH_take (i := 6) (v := .bool MD) rfl (by kernel_rfl) (by kernel_rfl) (by kernel_rfl) (fun _ _ _ h => h) (Or.inl ⟨by rfl, ?_⟩) hH ?_
  ·intro wq hSw
   try dsimp only at hSw
   go_simp
  try simp only [Act.put, zq1, zq2, zq3, zq4, zq5, zq6]
  refine wpAnyH_ready (rs := [1]) (by kernel_rfl) (by simp) ?_
  refine AllReadyH.cons rfl (fun KK hK => ?_) AllReadyH.nil
  simp only [zq1, zq2, zq3]
  rw [if_pos (by rfl)]
  refine wps1 26 (.tmp 67) _ rfl in_l5dy_m (.agg #[.int .i64 1, .bool n1, .int .i64 m1, .int .i64 e1]) rfl (unhide md1 _) ?_
  rintro e w2 ⟨v1, rfl, r1, k2⟩
  refine ⟨_, rfl, ?_⟩
  replace qf0 := k2.loose0 (zbl q0) qf0
  replace qf1 := k2.loose0 (zbl q1) qf1
  replace qf2 := k2.loose0 (zbl q2) qf2
  replace qf3 := k2.loose0 (zbl q3) qf3
  replace p0 := k2.cell0 p0
  replace p1 := k2.cell0 p1
  replace p2 := k2.cell0 p2
  replace p3 := k2.cell0 p3
  replace t0 := k2.cell0 t0
  replace t1 := k2.cell0 t1
  replace t2 := k2.cell0 t2
  replace t3 := k2.cell0 t3
  replace q0 := k2.cell0 q0
  replace q1 := k2.cell0 q1
  replace q2 := k2.cell0 q2
  replace q3 := k2.cell0 q3
  replace K := hide ((unhide K).trans k2)
  have z3 := k2.size
  clear k2
  clear hH
  refine hK.out _ _ ?_ (fun hH => ?_)
  ·exact ⟨p0, p1, p2, p3, t0, t1, t2, t3⟩
  clear hK KK
  try simp only [Act.put, zq1, zq2, zq3, zq4, zq5, zq6]
  refine wpAnyH_ready (rs := [3]) (by kernel_rfl) (by simp) ?_
  refine AllReadyH.cons rfl (fun KK hK => ?_) AllReadyH.nil
  simp only [zq1, zq2, zq3]
  rw [if_pos (by rfl)]
  refine wps1 26 (.tmp 69) _ rfl in_l5dy_m (.agg #[.int .i64 0, .bool n2, .int .i64 0, .int .i64 0]) rfl (unhide md2 _) ?_
  rintro e w4 ⟨v2, rfl, r2, k4⟩
  refine ⟨_, rfl, ?_⟩
  replace r1 := r1.kp k4
  replace qf0 := k4.loose0 (zbl q0) qf0
  replace qf1 := k4.loose0 (zbl q1) qf1
  replace qf2 := k4.loose0 (zbl q2) qf2
  replace qf3 := k4.loose0 (zbl q3) qf3
  replace p0 := k4.cell0 p0
  replace p1 := k4.cell0 p1
  replace p2 := k4.cell0 p2
  replace p3 := k4.cell0 p3
  replace t0 := k4.cell0 t0
  replace t1 := k4.cell0 t1
  replace t2 := k4.cell0 t2
  replace t3 := k4.cell0 t3
  replace q0 := k4.cell0 q0
  replace q1 := k4.cell0 q1
  replace q2 := k4.cell0 q2
  replace q3 := k4.cell0 q3
  replace K := hide ((unhide K).trans k4)
  have z5 := k4.size
  clear k4
  clear hH
  refine hK.out _ _ ?_ (fun hH => ?_)
  ·exact ⟨p0, p1, p2, p3, t0, t1, t2, t3⟩
  clear hK KK
  try simp only [Act.put, zq1, zq2, zq3, zq4, zq5, zq6]
  refine wpAnyH_ready (rs := [4]) (by kernel_rfl) (by simp) ?_
  refine AllReadyH.cons rfl (fun KK hK => ?_) AllReadyH.nil
  simp only [zq1, zq2, zq3]
  rw [if_pos (by rfl)]
  refine wps2 25 (.tmp 68) (.tmp 70) _ rfl in_l4add_m (.agg #[.bool s1, v1, .int .i64 x1]) (.agg #[.bool s2, v2, .int .i64 x2]) rfl rfl (add4_spec s1 s2 x1 x2 _ r1 r2 ok1 ok2) ?_
  rintro e w6 ⟨v3, rfl, r3, k6⟩
  refine ⟨_, rfl, ?_⟩
  replace r1 := r1.kp k6
  replace r2 := r2.kp k6
  replace qf0 := k6.loose0 (zbl q0) qf0
  replace qf1 := k6.loose0 (zbl q1) qf1
  replace qf2 := k6.loose0 (zbl q2) qf2
  replace qf3 := k6.loose0 (zbl q3) qf3
  replace p0 := k6.cell0 p0
  replace p1 := k6.cell0 p1
  replace p2 := k6.cell0 p2
  replace p3 := k6.cell0 p3
  replace t0 := k6.cell0 t0
  replace t1 := k6.cell0 t1
  replace t2 := k6.cell0 t2
  replace t3 := k6.cell0 t3
  replace q0 := k6.cell0 q0
  replace q1 := k6.cell0 q1
  replace q2 := k6.cell0 q2
  replace q3 := k6.cell0 q3
  replace K := hide ((unhide K).trans k6)
  have z7 := k6.size
  clear k6
  clear hH
  refine hK.out _ _ ?_ (fun hH => ?_)
  ·exact ⟨p0, p1, p2, p3, t0, t1, t2, t3⟩
  clear hK KK
  try simp only [Act.put, zq1, zq2, zq3, zq4, zq5, zq6]
  rw [unhide HM] at r3
  rw [unhide HM, unhide HX]
  refine wpAnyH_ready (rs := [7]) (by kernel_rfl) (by simp) ?_
  refine AllReadyH.cons rfl (fun KK hK => ?_) AllReadyH.nil
  simp only [zq1, zq2, zq3]
  rw [if_pos (by rfl)]
  refine wps3 24 (.tmp 71) (.tmp 72) (.tmp 73) _ rfl in_l5round_m (.agg #[.bool (wsg M), v3, .int .i64 (dex M X)]) (.int .i64 mode) (.bool MD) rfl rfl rfl (l5round_spec (wsg M) (dex M X) (by omega) (by omega) _ r3 (wn_dlm M) (odd_dlm M) (dex_nil M X) (by omega) mode hm0 hm4 MD) ?_
  rintro e w8 ⟨rfl, k8⟩
  refine ⟨_, rfl, ?_⟩
  replace r1 := r1.kp k8
  replace r2 := r2.kp k8
  replace r3 := r3.kp k8
  replace qf0 := k8.loose0 (zbl q0) qf0
  replace qf1 := k8.loose0 (zbl q1) qf1
  replace qf2 := k8.loose0 (zbl q2) qf2
  replace qf3 := k8.loose0 (zbl q3) qf3
  replace p0 := k8.cell0 p0
  replace p1 := k8.cell0 p1
  replace p2 := k8.cell0 p2
  replace p3 := k8.cell0 p3
  replace t0 := k8.cell0 t0
  replace t1 := k8.cell0 t1
  replace t2 := k8.cell0 t2
  replace t3 := k8.cell0 t3
  replace q0 := k8.cell0 q0
  replace q1 := k8.cell0 q1
  replace q2 := k8.cell0 q2
  replace q3 := k8.cell0 q3
  replace K := hide ((unhide K).trans k8)
  have z9 := k8.size
  clear k8
  clear hH
  refine hK.out _ _ ?_ (fun hH => ?_)
  ·exact ⟨p0, p1, p2, p3, t0, t1, t2, t3⟩
  clear hK KK
  try simp only [Act.put, zq1, zq2, zq3, zq4, zq5, zq6]
  rw [unhide HA, unhide HGG, unhide HJ]
  refine wpAnyH_take (i := 8) (v := .agg #[.int .i64 A.1, .bool SG, .int .i64 A.2.1, .int .i64 A.2.2]) rfl (by kernel_rfl) (by kernel_rfl) (by kernel_rfl) (fun _ _ _ h => h) (Or.inl ⟨by rfl, ?_⟩) hH ?_
  ·intro wq hSw
   try dsimp only at hSw
   go_simp
  try simp only [Act.put, zq1, zq2, zq3, zq4, zq5, zq6]
  refine wpAnyH_take (i := 9) (v := .int .i64 GG) rfl (by kernel_rfl) (by kernel_rfl) (by kernel_rfl) (fun _ _ _ h => h) (Or.inl ⟨by rfl, ?_⟩) hH ?_
  ·intro wq hSw
   try dsimp only at hSw
   go_simp
  try simp only [Act.put, zq1, zq2, zq3, zq4, zq5, zq6]
  refine wpAnyH_ready (rs := [10]) (by kernel_rfl) (by simp) ?_
  refine AllReadyH.cons rfl (fun KK hK => ?_) AllReadyH.nil
  simp only [zq1, zq2, zq3]
  rw [if_pos (by rfl)]
  go_simp
  clear hH
  refine hK.out _ _ ?_ (fun hH => ?_)
  ·exact ⟨(cell_aside _ (by have := unhide S0; dsimp only; omega) (cw3 (by have := unhide S0; dsimp only; omega) p0)), (cell_aside _ (by have := unhide S0; dsimp only; omega) (cw3 (by have := unhide S0; dsimp only; omega) p1)), (cell_aside _ (by have := unhide S0; dsimp only; omega) (cw3 (by have := unhide S0; dsimp only; omega) p2)), (cell_aside _ (by have := unhide S0; dsimp only; omega) (cw3 (by have := unhide S0; dsimp only; omega) p3)), (cell_aside _ (by have := unhide S0; dsimp only; omega) (cw3 (by have := unhide S0; dsimp only; omega) t0)), (cell_aside _ (by have := unhide S0; dsimp only; omega) (cw3 (by have := unhide S0; dsimp only; omega) t1)), (cell_aside _ (by have := unhide S0; dsimp only; omega) (cw3 (by have := unhide S0; dsimp only; omega) t2)), (cell_aside _ (by have := unhide S0; dsimp only; omega) (cw3 (by have := unhide S0; dsimp only; omega) t3))⟩
  clear hK KK
  try simp only [Act.put, zq1, zq2, zq3, zq4, zq5, zq6]
  refine wpAnyH_take (i := 11) (v := .int .i64 GG) rfl (by kernel_rfl) (by kernel_rfl) (by kernel_rfl) (fun _ _ _ h => h) (Or.inl ⟨by rfl, ?_⟩) hH ?_
  ·intro wq hSw
   try dsimp only at hSw
   go_simp
  try simp only [Act.put, zq1, zq2, zq3, zq4, zq5, zq6]
  refine wpAnyH_done (by kernel_rfl) ?_ _
  clear hH
  have KF := hide (((((unhide K).setNew (p := ⟨w.heap.size + 2, 0, none⟩) (by simp) (.int .i64 A.1)).setNew (p := ⟨w.heap.size + 2, 1, none⟩) (by simp) (.bool SG)).setNew (p := ⟨w.heap.size + 2, 2, none⟩) (by simp) (.int .i64 A.2.1)).setNew (p := ⟨w.heap.size + 2, 3, none⟩) (by simp) (.int .i64 A.2.2))
  clear r1 r2 r3 K
  try go_wp2_with fail
  exact bodyPost_ret (v := .tuple #[.agg #[.int .i64 A.1, .bool SG, .int .i64 A.2.1, .int .i64 A.2.2], .int .i64 GG]) (by simp [results, Tryd.results13, go_sem, q0, q1, q2, q3]) rfl ⟨by rw [unhide FQ], unhide KF⟩

set_option maxHeartbeats 2000000 in
theorem addS_num_inf (n1 : Bool) (m1 e1 : Int) (n2 : Bool) (a11 : -1074 ≤ e1) (a21 : e1 ≤ 971) (a31 : 1 ≤ m1) (a41 : m1 ≤ 9007199254740991) (mode : Int) (hm0 : 0 ≤ mode) (hm4 : mode ≤ 4) (w : World) :
    Calls Tryd.prog 13 #[flv 1 n1 m1 e1, flv 2 n2 0 0, .int .i64 mode] w fun e' w' => e' = .returned (.tuple #[flq (addQ 1 n1 m1 e1 2 n2 0 0 mode).1, .int .i64 (addQ 1 n1 m1 e1 2 n2 0 0 mode).2]) ∧ Kept 0 0 w w' := by
  obtain ⟨Q, hQ⟩ : ∃ q, addQ 1 n1 m1 e1 2 n2 0 0 mode = q := ⟨_, rfl⟩
  rw [hQ]
  have HQ := hide hQ
  clear hQ
  have FQ : Hid (Q = ((2, n2, 0, 0), 0)) := by show _ = _; rw [← unhide HQ]; unfold addQ; simp
  obtain ⟨Wn, hn0⟩ : ∃ wz, wz = (((w.alloc (.cells #[.int .i64 1, .bool n1, .int .i64 m1, .int .i64 e1] 24)).alloc (.cells #[.int .i64 2, .bool n2, .int .i64 0, .int .i64 0] 24)).alloc (.cells #[.int .i64 0, .bool false, .int .i64 0, .int .i64 0] 24)) := ⟨_, rfl⟩
  have k0 : Kept 0 0 w Wn := by rw [hn0]; exact ((((Kept.refl 0 0 w).alloc _).alloc _).alloc _)
  have p0 : Wn.cell? ⟨w.heap.size, 0, none⟩ = some (.int .i64 1) := by rw [hn0]; exact old_cell _ (old_cell _ (new_cell2 _ _ _ _ _ _ (by simp) rfl))
  have p1 : Wn.cell? ⟨w.heap.size, 1, none⟩ = some (.bool n1) := by rw [hn0]; exact old_cell _ (old_cell _ (new_cell2 _ _ _ _ _ _ (by simp) rfl))
  have p2 : Wn.cell? ⟨w.heap.size, 2, none⟩ = some (.int .i64 m1) := by rw [hn0]; exact old_cell _ (old_cell _ (new_cell2 _ _ _ _ _ _ (by simp) rfl))
  have p3 : Wn.cell? ⟨w.heap.size, 3, none⟩ = some (.int .i64 e1) := by rw [hn0]; exact old_cell _ (old_cell _ (new_cell2 _ _ _ _ _ _ (by simp) rfl))
  have t0 : Wn.cell? ⟨w.heap.size + 1, 0, none⟩ = some (.int .i64 2) := by rw [hn0]; exact old_cell _ (new_cell2 _ _ _ _ _ _ (by simp) rfl)
  have t1 : Wn.cell? ⟨w.heap.size + 1, 1, none⟩ = some (.bool n2) := by rw [hn0]; exact old_cell _ (new_cell2 _ _ _ _ _ _ (by simp) rfl)
  have t2 : Wn.cell? ⟨w.heap.size + 1, 2, none⟩ = some (.int .i64 0) := by rw [hn0]; exact old_cell _ (new_cell2 _ _ _ _ _ _ (by simp) rfl)
  have t3 : Wn.cell? ⟨w.heap.size + 1, 3, none⟩ = some (.int .i64 0) := by rw [hn0]; exact old_cell _ (new_cell2 _ _ _ _ _ _ (by simp) rfl)
  have q0 : Wn.cell? ⟨w.heap.size + 2, 0, none⟩ = some (.int .i64 0) := by rw [hn0]; exact new_cell2 _ _ _ _ _ _ (by simp) rfl
  have qf0 : Wn.frozen? ⟨w.heap.size + 2, 0, none⟩ = false := by rw [hn0]; exact new_loose2 _ _ _ _ _ (by simp)
  have q1 : Wn.cell? ⟨w.heap.size + 2, 1, none⟩ = some (.bool false) := by rw [hn0]; exact new_cell2 _ _ _ _ _ _ (by simp) rfl
  have qf1 : Wn.frozen? ⟨w.heap.size + 2, 1, none⟩ = false := by rw [hn0]; exact new_loose2 _ _ _ _ _ (by simp)
  have q2 : Wn.cell? ⟨w.heap.size + 2, 2, none⟩ = some (.int .i64 0) := by rw [hn0]; exact new_cell2 _ _ _ _ _ _ (by simp) rfl
  have qf2 : Wn.frozen? ⟨w.heap.size + 2, 2, none⟩ = false := by rw [hn0]; exact new_loose2 _ _ _ _ _ (by simp)
  have q3 : Wn.cell? ⟨w.heap.size + 2, 3, none⟩ = some (.int .i64 0) := by rw [hn0]; exact new_cell2 _ _ _ _ _ _ (by simp) rfl
  have qf3 : Wn.frozen? ⟨w.heap.size + 2, 3, none⟩ = false := by rw [hn0]; exact new_loose2 _ _ _ _ _ (by simp)
  have s0 : Wn.heap.size = w.heap.size + 3 := by rw [hn0]; exact by simp
  subst hn0
  have K := hide (k0)
  clear k0
  have S0 := hide s0
  clear s0
  go_enter Tryd.func13, Tryd.ntmps13
  have KF := hide ((((Kept.refl 0 0 w).alloc (.cells #[.int .i64 1, .bool n1, .int .i64 m1, .int .i64 e1] 24)).alloc (.cells #[.int .i64 2, .bool n2, .int .i64 0, .int .i64 0] 24)).alloc (.cells #[.int .i64 2, .bool n2, .int .i64 0, .int .i64 0] 24))
  clear K
  go_wp2_with fail
  exact bodyPost_ret (v := .tuple #[.agg #[.int .i64 2, .bool n2, .int .i64 0, .int .i64 0], .int .i64 0]) (by simp [results, Tryd.results13, go_sem, q0, q1, q2, q3]) rfl ⟨by rw [unhide FQ], unhide KF⟩

set_option maxHeartbeats 2000000 in
theorem addS_num_nan (n1 : Bool) (m1 e1 : Int) (a11 : -1074 ≤ e1) (a21 : e1 ≤ 971) (a31 : 1 ≤ m1) (a41 : m1 ≤ 9007199254740991) (mode : Int) (hm0 : 0 ≤ mode) (hm4 : mode ≤ 4) (w : World) :
    Calls Tryd.prog 13 #[flv 1 n1 m1 e1, flv 3 false 0 0, .int .i64 mode] w fun e' w' => e' = .returned (.tuple #[flq (addQ 1 n1 m1 e1 3 false 0 0 mode).1, .int .i64 (addQ 1 n1 m1 e1 3 false 0 0 mode).2]) ∧ Kept 0 0 w w' := by
  obtain ⟨Q, hQ⟩ : ∃ q, addQ 1 n1 m1 e1 3 false 0 0 mode = q := ⟨_, rfl⟩
  rw [hQ]
  have HQ := hide hQ
  clear hQ
  have FQ : Hid (Q = ((3, false, 0, 0), 0)) := by show _ = _; rw [← unhide HQ]; unfold addQ; simp
  obtain ⟨Wn, hn0⟩ : ∃ wz, wz = (((w.alloc (.cells #[.int .i64 1, .bool n1, .int .i64 m1, .int .i64 e1] 24)).alloc (.cells #[.int .i64 3, .bool false, .int .i64 0, .int .i64 0] 24)).alloc (.cells #[.int .i64 0, .bool false, .int .i64 0, .int .i64 0] 24)) := ⟨_, rfl⟩
  have k0 : Kept 0 0 w Wn := by rw [hn0]; exact ((((Kept.refl 0 0 w).alloc _).alloc _).alloc _)
  have p0 : Wn.cell? ⟨w.heap.size, 0, none⟩ = some (.int .i64 1) := by rw [hn0]; exact old_cell _ (old_cell _ (new_cell2 _ _ _ _ _ _ (by simp) rfl))
  have p1 : Wn.cell? ⟨w.heap.size, 1, none⟩ = some (.bool n1) := by rw [hn0]; exact old_cell _ (old_cell _ (new_cell2 _ _ _ _ _ _ (by simp) rfl))
  have p2 : Wn.cell? ⟨w.heap.size, 2, none⟩ = some (.int .i64 m1) := by rw [hn0]; exact old_cell _ (old_cell _ (new_cell2 _ _ _ _ _ _ (by simp) rfl))
  have p3 : Wn.cell? ⟨w.heap.size, 3, none⟩ = some (.int .i64 e1) := by rw [hn0]; exact old_cell _ (old_cell _ (new_cell2 _ _ _ _ _ _ (by simp) rfl))
  have t0 : Wn.cell? ⟨w.heap.size + 1, 0, none⟩ = some (.int .i64 3) := by rw [hn0]; exact old_cell _ (new_cell2 _ _ _ _ _ _ (by simp) rfl)
  have t1 : Wn.cell? ⟨w.heap.size + 1, 1, none⟩ = some (.bool false) := by rw [hn0]; exact old_cell _ (new_cell2 _ _ _ _ _ _ (by simp) rfl)
  have t2 : Wn.cell? ⟨w.heap.size + 1, 2, none⟩ = some (.int .i64 0) := by rw [hn0]; exact old_cell _ (new_cell2 _ _ _ _ _ _ (by simp) rfl)
  have t3 : Wn.cell? ⟨w.heap.size + 1, 3, none⟩ = some (.int .i64 0) := by rw [hn0]; exact old_cell _ (new_cell2 _ _ _ _ _ _ (by simp) rfl)
  have q0 : Wn.cell? ⟨w.heap.size + 2, 0, none⟩ = some (.int .i64 0) := by rw [hn0]; exact new_cell2 _ _ _ _ _ _ (by simp) rfl
  have qf0 : Wn.frozen? ⟨w.heap.size + 2, 0, none⟩ = false := by rw [hn0]; exact new_loose2 _ _ _ _ _ (by simp)
  have q1 : Wn.cell? ⟨w.heap.size + 2, 1, none⟩ = some (.bool false) := by rw [hn0]; exact new_cell2 _ _ _ _ _ _ (by simp) rfl
  have qf1 : Wn.frozen? ⟨w.heap.size + 2, 1, none⟩ = false := by rw [hn0]; exact new_loose2 _ _ _ _ _ (by simp)
  have q2 : Wn.cell? ⟨w.heap.size + 2, 2, none⟩ = some (.int .i64 0) := by rw [hn0]; exact new_cell2 _ _ _ _ _ _ (by simp) rfl
  have qf2 : Wn.frozen? ⟨w.heap.size + 2, 2, none⟩ = false := by rw [hn0]; exact new_loose2 _ _ _ _ _ (by simp)
  have q3 : Wn.cell? ⟨w.heap.size + 2, 3, none⟩ = some (.int .i64 0) := by rw [hn0]; exact new_cell2 _ _ _ _ _ _ (by simp) rfl
  have qf3 : Wn.frozen? ⟨w.heap.size + 2, 3, none⟩ = false := by rw [hn0]; exact new_loose2 _ _ _ _ _ (by simp)
  have s0 : Wn.heap.size = w.heap.size + 3 := by rw [hn0]; exact by simp
  subst hn0
  have K := hide (k0)
  clear k0
  have S0 := hide s0
  clear s0
  go_enter Tryd.func13, Tryd.ntmps13
  go_wp2_with fail
  generalize (((w.alloc (.cells #[.int .i64 1, .bool n1, .int .i64 m1, .int .i64 e1] 24)).alloc (.cells #[.int .i64 3, .bool false, .int .i64 0, .int .i64 0] 24)).alloc (.cells #[.int .i64 0, .bool false, .int .i64 0, .int .i64 0] 24)) = W at *
  refine (nan_kept _).mono ?_
  rintro e w1 ⟨rfl, k1⟩
  replace qf0 := k1.loose0 (zbl q0) qf0
  replace qf1 := k1.loose0 (zbl q1) qf1
  replace qf2 := k1.loose0 (zbl q2) qf2
  replace qf3 := k1.loose0 (zbl q3) qf3
  replace p0 := k1.cell0 p0
  replace p1 := k1.cell0 p1
  replace p2 := k1.cell0 p2
  replace p3 := k1.cell0 p3
  replace t0 := k1.cell0 t0
  replace t1 := k1.cell0 t1
  replace t2 := k1.cell0 t2
  replace t3 := k1.cell0 t3
  replace q0 := k1.cell0 q0
  replace q1 := k1.cell0 q1
  replace q2 := k1.cell0 q2
  replace q3 := k1.cell0 q3
  replace K := hide ((unhide K).trans k1)
  have z2 := k1.size
  clear k1
  have KF := hide (((((unhide K).setNew (p := ⟨w.heap.size + 2, 0, none⟩) (by simp) (.int .i64 3)).setNew (p := ⟨w.heap.size + 2, 1, none⟩) (by simp) (.bool false)).setNew (p := ⟨w.heap.size + 2, 2, none⟩) (by simp) (.int .i64 0)).setNew (p := ⟨w.heap.size + 2, 3, none⟩) (by simp) (.int .i64 0))
  clear K
  try go_wp2_with fail
  exact bodyPost_ret (v := .tuple #[.agg #[.int .i64 3, .bool false, .int .i64 0, .int .i64 0], .int .i64 0]) (by simp [results, Tryd.results13, go_sem, q0, q1, q2, q3]) rfl ⟨by rw [unhide FQ], unhide KF⟩

set_option maxHeartbeats 2000000 in
theorem addS_nought_num (n1 : Bool) (n2 : Bool) (m2 e2 : Int) (a12 : -1074 ≤ e2) (a22 : e2 ≤ 971) (a32 : 1 ≤ m2) (a42 : m2 ≤ 9007199254740991) (mode : Int) (hm0 : 0 ≤ mode) (hm4 : mode ≤ 4) (w : World) :
    Calls Tryd.prog 13 #[flv 0 n1 0 0, flv 1 n2 m2 e2, .int .i64 mode] w fun e' w' => e' = .returned (.tuple #[flq (addQ 0 n1 0 0 1 n2 m2 e2 mode).1, .int .i64 (addQ 0 n1 0 0 1 n2 m2 e2 mode).2]) ∧ Kept 0 0 w w' := by
  obtain ⟨Q, hQ⟩ : ∃ q, addQ 0 n1 0 0 1 n2 m2 e2 mode = q := ⟨_, rfl⟩
  rw [hQ]
  have HQ := hide hQ
  clear hQ
  obtain ⟨Wn, hn0⟩ : ∃ wz, wz = (((w.alloc (.cells #[.int .i64 0, .bool n1, .int .i64 0, .int .i64 0] 24)).alloc (.cells #[.int .i64 1, .bool n2, .int .i64 m2, .int .i64 e2] 24)).alloc (.cells #[.int .i64 0, .bool false, .int .i64 0, .int .i64 0] 24)) := ⟨_, rfl⟩
  have k0 : Kept 0 0 w Wn := by rw [hn0]; exact ((((Kept.refl 0 0 w).alloc _).alloc _).alloc _)
  have p0 : Wn.cell? ⟨w.heap.size, 0, none⟩ = some (.int .i64 0) := by rw [hn0]; exact old_cell _ (old_cell _ (new_cell2 _ _ _ _ _ _ (by simp) rfl))
  have p1 : Wn.cell? ⟨w.heap.size, 1, none⟩ = some (.bool n1) := by rw [hn0]; exact old_cell _ (old_cell _ (new_cell2 _ _ _ _ _ _ (by simp) rfl))
  have p2 : Wn.cell? ⟨w.heap.size, 2, none⟩ = some (.int .i64 0) := by rw [hn0]; exact old_cell _ (old_cell _ (new_cell2 _ _ _ _ _ _ (by simp) rfl))
  have p3 : Wn.cell? ⟨w.heap.size, 3, none⟩ = some (.int .i64 0) := by rw [hn0]; exact old_cell _ (old_cell _ (new_cell2 _ _ _ _ _ _ (by simp) rfl))
  have t0 : Wn.cell? ⟨w.heap.size + 1, 0, none⟩ = some (.int .i64 1) := by rw [hn0]; exact old_cell _ (new_cell2 _ _ _ _ _ _ (by simp) rfl)
  have t1 : Wn.cell? ⟨w.heap.size + 1, 1, none⟩ = some (.bool n2) := by rw [hn0]; exact old_cell _ (new_cell2 _ _ _ _ _ _ (by simp) rfl)
  have t2 : Wn.cell? ⟨w.heap.size + 1, 2, none⟩ = some (.int .i64 m2) := by rw [hn0]; exact old_cell _ (new_cell2 _ _ _ _ _ _ (by simp) rfl)
  have t3 : Wn.cell? ⟨w.heap.size + 1, 3, none⟩ = some (.int .i64 e2) := by rw [hn0]; exact old_cell _ (new_cell2 _ _ _ _ _ _ (by simp) rfl)
  have q0 : Wn.cell? ⟨w.heap.size + 2, 0, none⟩ = some (.int .i64 0) := by rw [hn0]; exact new_cell2 _ _ _ _ _ _ (by simp) rfl
  have qf0 : Wn.frozen? ⟨w.heap.size + 2, 0, none⟩ = false := by rw [hn0]; exact new_loose2 _ _ _ _ _ (by simp)
  have q1 : Wn.cell? ⟨w.heap.size + 2, 1, none⟩ = some (.bool false) := by rw [hn0]; exact new_cell2 _ _ _ _ _ _ (by simp) rfl
  have qf1 : Wn.frozen? ⟨w.heap.size + 2, 1, none⟩ = false := by rw [hn0]; exact new_loose2 _ _ _ _ _ (by simp)
  have q2 : Wn.cell? ⟨w.heap.size + 2, 2, none⟩ = some (.int .i64 0) := by rw [hn0]; exact new_cell2 _ _ _ _ _ _ (by simp) rfl
  have qf2 : Wn.frozen? ⟨w.heap.size + 2, 2, none⟩ = false := by rw [hn0]; exact new_loose2 _ _ _ _ _ (by simp)
  have q3 : Wn.cell? ⟨w.heap.size + 2, 3, none⟩ = some (.int .i64 0) := by rw [hn0]; exact new_cell2 _ _ _ _ _ _ (by simp) rfl
  have qf3 : Wn.frozen? ⟨w.heap.size + 2, 3, none⟩ = false := by rw [hn0]; exact new_loose2 _ _ _ _ _ (by simp)
  have s0 : Wn.heap.size = w.heap.size + 3 := by rw [hn0]; exact by simp
  subst hn0
  have K := hide (k0)
  clear k0
  have S0 := hide s0
  clear s0
  go_enter Tryd.func13, Tryd.ntmps13
  obtain ⟨MD, hMD⟩ : ∃ y, (mode == 3) = y := ⟨_, rfl⟩
  go_wp2_with fail
  generalize (((w.alloc (.cells #[.int .i64 0, .bool n1, .int .i64 0, .int .i64 0] 24)).alloc (.cells #[.int .i64 1, .bool n2, .int .i64 m2, .int .i64 e2] 24)).alloc (.cells #[.int .i64 0, .bool false, .int .i64 0, .int .i64 0] 24)) = W at *
  have ab1 : (fM 0 n1 0).natAbs < 2 ^ 64 := fM_abs _ _ (by omega) (by omega)
  have ab2 : (fM 1 n2 m2).natAbs < 2 ^ 64 := fM_abs _ _ (by omega) (by omega)
  have ok1 := dok_fl (fM 0 n1 0) (0 : Int) ab1 (by omega) (by omega)
  have ok2 := dok_fl (fM 1 n2 m2) e2 ab2 (by omega) (by omega)
  have md1 := fun w => dy5_nought n1 w
  have md2 := fun w => dy5_num n2 m2 e2 a12 a22 a32 a42 w
  obtain ⟨s1, hs1⟩ : ∃ y, wsg (fM 0 n1 0) = y := ⟨_, rfl⟩
  obtain ⟨s2, hs2⟩ : ∃ y, wsg (fM 1 n2 m2) = y := ⟨_, rfl⟩
  obtain ⟨z1, hz1⟩ : ∃ y, dlm (fM 0 n1 0) = y := ⟨_, rfl⟩
  obtain ⟨z2, hz2⟩ : ∃ y, dlm (fM 1 n2 m2) = y := ⟨_, rfl⟩
  obtain ⟨x1, hx1⟩ : ∃ y, dex (fM 0 n1 0) (0 : Int) = y := ⟨_, rfl⟩
  obtain ⟨x2, hx2⟩ : ∃ y, dex (fM 1 n2 m2) e2 = y := ⟨_, rfl⟩
  obtain ⟨M, hM⟩ : ∃ y, wval s1 z1 * 2 ^ (x1 - min x1 x2).toNat + wval s2 z2 * 2 ^ (x2 - min x1 x2).toNat = y := ⟨_, rfl⟩
  obtain ⟨X, hX⟩ : ∃ y, min x1 x2 = y := ⟨_, rfl⟩
  have hfn : ∀ (n : Bool) {m : Int}, 1 ≤ m → (fM 1 n m).natAbs = m.toNat := fun n m h => by unfold fM; cases n <;> simp <;> omega
  have jj := add_fin mode MD (fM 0 n1 0) (fM 1 n2 m2) (0 : Int) e2 M X _ _ (fun h => rfl) (fun h => by have h9 := hfn n2 a32; rw [h] at h9; simp at h9; omega) (.inr trivial) (by rw [← hM, ← hs1, ← hs2, ← hz1, ← hz2, ← hx1, ← hx2]) (by rw [← hX, ← hx1, ← hx2]) rfl rfl
  have hq : rndQ mode (fM 0 n1 0 * 2 ^ ((0 : Int) - min (0 : Int) e2).toNat + fM 1 n2 m2 * 2 ^ (e2 - min (0 : Int) e2).toNat) (min (0 : Int) e2) MD = Q := by
   rw [← unhide HQ, ← hMD]
   unfold addQ
   simp
  rw [hq] at jj
  have hxb : -3000 ≤ x1 ∧ x1 ≤ 3000 ∧ -3000 ≤ x2 ∧ x2 ≤ 3000 := by
   have g1 := (dok_parts ok1).2
   have g2 := (dok_parts ok2).2
   rw [hx1] at g1
   rw [hx2] at g2
   omega
  rw [hs1, hz1, hx1] at ok1
  rw [hs2, hz2, hx2] at ok2
  obtain ⟨AA, hAA⟩ : ∃ A : Nat, A = 7600 := ⟨_, rfl⟩
  have hMb : M.natAbs < 2 ^ (AA + 1) := by
   have g1 := wok_int (dok_parts ok1).1
   have g2 := wok_int (dok_parts ok2).1
   rw [← hM]
   exact add_lt (al_lt g1.2.2.2.1 g1.2.2.1 _ (by omega) hAA) (al_lt g2.2.2.2.1 g2.2.2.1 _ (by omega) hAA)
  have hdM : -20000 ≤ dex M X ∧ dex M X ≤ 20000 := by
   unfold dex
   split
   ·omega
   ·rename_i hne
    have := tz_lt (n := M.natAbs) (by omega) hMb
    omega
  have hlM : (dlm M).length ≤ 500 := Nat.le_trans (dlm_len (M := M) rfl) (wlm_len hMb (by omega))
  simp only [hs1, hz1, hx1] at md1
  simp only [hs2, hz2, hx2] at md2
  obtain ⟨A, hA⟩ : ∃ y, flA mode (wsg M) (val (dlm M)).toNat (dex M X) = y := ⟨_, rfl⟩
  obtain ⟨GG, hGG⟩ : ∃ y, flG mode (wsg M) (val (dlm M)).toNat (dex M X) = y := ⟨_, rfl⟩
  obtain ⟨SG, hSG⟩ : ∃ y, (if (val (dlm M)).toNat = 0 then MD else wsg M) = y := ⟨_, rfl⟩
  rw [hA, hGG, hSG] at jj
  have FQ : Hid (Q = ((A.1, SG, A.2.1, A.2.2), GG)) := jj.symm
  have HA := hide hA
  have HGG := hide hGG
  have HJ := hide hSG
  have HM := hide hM
  have HX := hide hX
  replace md1 := hide md1
  replace md2 := hide md2
  clear hs1 hs2 hz1 hz2 hx1 hx2 hA hGG hSG jj hq hM hX hMb ab1 ab2 hAA hfn
  have n_qf0 := qf0
  have n_q0 := q0
  have n_qf1 := qf1
  have n_q1 := q1
  have n_qf2 := qf2
  have n_q2 := q2
  have n_qf3 := qf3
  have n_q3 := q3
  have kd := (Kept.refl 0 0 W).drew
  replace qf0 := kd.loose0 (zbl q0) qf0
  replace qf1 := kd.loose0 (zbl q1) qf1
  replace qf2 := kd.loose0 (zbl q2) qf2
  replace qf3 := kd.loose0 (zbl q3) qf3
  replace p0 := kd.cell0 p0
  replace p1 := kd.cell0 p1
  replace p2 := kd.cell0 p2
  replace p3 := kd.cell0 p3
  replace t0 := kd.cell0 t0
  replace t1 := kd.cell0 t1
  replace t2 := kd.cell0 t2
  replace t3 := kd.cell0 t3
  replace q0 := kd.cell0 q0
  replace q1 := kd.cell0 q1
  replace q2 := kd.cell0 q2
  replace q3 := kd.cell0 q3
  replace K := hide ((unhide K).trans kd)
  have z1 := kd.size
  clear kd
  refine wp_region_held_drew (S := (fun w' => w'.cell? ⟨w.heap.size, 0, none⟩ = some (.int .i64 0) ∧ w'.cell? ⟨w.heap.size, 1, none⟩ = some (.bool n1) ∧ w'.cell? ⟨w.heap.size, 2, none⟩ = some (.int .i64 0) ∧ w'.cell? ⟨w.heap.size, 3, none⟩ = some (.int .i64 0) ∧ w'.cell? ⟨w.heap.size + 1, 0, none⟩ = some (.int .i64 1) ∧ w'.cell? ⟨w.heap.size + 1, 1, none⟩ = some (.bool n2) ∧ w'.cell? ⟨w.heap.size + 1, 2, none⟩ = some (.int .i64 m2) ∧ w'.cell? ⟨w.heap.size + 1, 3, none⟩ = some (.int .i64 e2))) (by kernel_rfl) ?_ (fun hH => ?_)
  ·exact ⟨p0, p1, p2, p3, t0, t1, t2, t3⟩
  refine wpAnyH_take (i := 0) (v := .agg #[.int .i64 0, .bool n1, .int .i64 0, .int .i64 0]) rfl (by kernel_rfl) (by kernel_rfl) (by kernel_rfl) (fun _ _ _ h => h) (Or.inl ⟨by rfl, ?_⟩) hH ?_
  ·intro wq hSw
   try dsimp only at hSw
   go_simp
  try simp only [Act.put, zq1, zq2, zq3, zq4, zq5, zq6]
  refine wpAnyH_take (i := 2) (v := .agg #[.int .i64 1, .bool n2, .int .i64 m2, .int .i64 e2]) rfl (by kernel_rfl) (by kernel_rfl) (by kernel_rfl) (fun _ _ _ h => h) (Or.inl ⟨by rfl, ?_⟩) hH ?_
  ·intro wq hSw
   try dsimp only at hSw
   go_simp
  try simp only [Act.put, zq1, zq2, zq3, zq4, zq5, zq6]
  refine wpAnyH_take (i := 5) (v := .int .i64 mode) rfl (by kernel_rfl) (by kernel_rfl) (by kernel_rfl) (fun _ _ _ h => h) (Or.inl ⟨by rfl, ?_⟩) hH ?_
  ·intro wq hSw
   try dsimp only at hSw
   go_simp
  try simp only [Act.put, zq1, zq2, zq3, zq4, zq5, zq6]
  refine wpAnyH_take (i := 6) (v := .bool MD) rfl (by kernel_rfl) (by kernel_rfl) (by kernel_rfl) (fun _ _ _ h => h) (Or.inl ⟨by rfl, ?_⟩) hH ?_
  ·intro wq hSw
   try dsimp only at hSw
   go_simp
  try simp only [Act.put, zq1, zq2, zq3, zq4, zq5, zq6]
  refine wpAnyH_ready (rs := [1]) (by kernel_rfl) (by simp) ?_
  refine AllReadyH.cons rfl (fun KK hK => ?_) AllReadyH.nil
  simp only [zq1, zq2, zq3]
  rw [if_pos (by rfl)]
  refine wps1 26 (.tmp 67) _ rfl in_l5dy_m (.agg #[.int .i64 0, .bool n1, .int .i64 0, .int .i64 0]) rfl (unhide md1 _) ?_
  rintro e w2 ⟨v1, rfl, r1, k2⟩
  refine ⟨_, rfl, ?_⟩
  replace qf0 := k2.loose0 (zbl q0) qf0
  replace qf1 := k2.loose0 (zbl q1) qf1
  replace qf2 := k2.loose0 (zbl q2) qf2
  replace qf3 := k2.loose0 (zbl q3) qf3
  replace p0 := k2.cell0 p0
  replace p1 := k2.cell0 p1
  replace p2 := k2.cell0 p2
  replace p3 := k2.cell0 p3
  replace t0 := k2.cell0 t0
  replace t1 := k2.cell0 t1
  replace t2 := k2.cell0 t2
  replace t3 := k2.cell0 t3
  replace q0 := k2.cell0 q0
  replace q1 := k2.cell0 q1
  replace q2 := k2.cell0 q2
  replace q3 := k2.cell0 q3
  replace K := hide ((unhide K).trans k2)
  have z3 := k2.size
  clear k2
  clear hH
  refine hK.out _ _ ?_ (fun hH => ?_)
  ·exact ⟨p0, p1, p2, p3, t0, t1, t2, t3⟩
  clear hK KK
  try simp only [Act.put, zq1, zq2, zq3, zq4, zq5, zq6]
  refine wpAnyH_ready (rs := [3]) (by kernel_rfl) (by simp) ?_
  refine AllReadyH.cons rfl (fun KK hK => ?_) AllReadyH.nil
  simp only [zq1, zq2, zq3]
  rw [if_pos (by rfl)]
  refine wps1 26 (.tmp 69) _ rfl in_l5dy_m (.agg #[.int .i64 1, .bool n2, .int .i64 m2, .int .i64 e2]) rfl (unhide md2 _) ?_
  rintro e w4 ⟨v2, rfl, r2, k4⟩
  refine ⟨_, rfl, ?_⟩
  replace r1 := r1.kp k4
  replace qf0 := k4.loose0 (zbl q0) qf0
  replace qf1 := k4.loose0 (zbl q1) qf1
  replace qf2 := k4.loose0 (zbl q2) qf2
  replace qf3 := k4.loose0 (zbl q3) qf3
  replace p0 := k4.cell0 p0
  replace p1 := k4.cell0 p1
  replace p2 := k4.cell0 p2
  replace p3 := k4.cell0 p3
  replace t0 := k4.cell0 t0
  replace t1 := k4.cell0 t1
  replace t2 := k4.cell0 t2
  replace t3 := k4.cell0 t3
  replace q0 := k4.cell0 q0
  replace q1 := k4.cell0 q1
  replace q2 := k4.cell0 q2
  replace q3 := k4.cell0 q3
  replace K := hide ((unhide K).trans k4)
  have z5 := k4.size
  clear k4
  clear hH
  refine hK.out _ _ ?_ (fun hH => ?_)
  ·exact ⟨p0, p1, p2, p3, t0, t1, t2, t3⟩
  clear hK KK
  try simp only [Act.put, zq1, zq2, zq3, zq4, zq5, zq6]
  refine wpAnyH_ready (rs := [4]) (by kernel_rfl) (by simp) ?_
  refine AllReadyH.cons rfl (fun KK hK => ?_) AllReadyH.nil
  simp only [zq1, zq2, zq3]
  rw [if_pos (by rfl)]
  refine wps2 25 (.tmp 68) (.tmp 70) _ rfl in_l4add_m (.agg #[.bool s1, v1, .int .i64 x1]) (.agg #[.bool s2, v2, .int .i64 x2]) rfl rfl (add4_spec s1 s2 x1 x2 _ r1 r2 ok1 ok2) ?_
  rintro e w6 ⟨v3, rfl, r3, k6⟩
  refine ⟨_, rfl, ?_⟩
  replace r1 := r1.kp k6
  replace r2 := r2.kp k6
  replace qf0 := k6.loose0 (zbl q0) qf0
  replace qf1 := k6.loose0 (zbl q1) qf1
  replace qf2 := k6.loose0 (zbl q2) qf2
  replace qf3 := k6.loose0 (zbl q3) qf3
  replace p0 := k6.cell0 p0
  replace p1 := k6.cell0 p1
  replace p2 := k6.cell0 p2
  replace p3 := k6.cell0 p3
  replace t0 := k6.cell0 t0
  replace t1 := k6.cell0 t1
  replace t2 := k6.cell0 t2
  replace t3 := k6.cell0 t3
  replace q0 := k6.cell0 q0
  replace q1 := k6.cell0 q1
  replace q2 := k6.cell0 q2
  replace q3 := k6.cell0 q3
  replace K := hide ((unhide K).trans k6)
  have z7 := k6.size
  clear k6
  clear hH
  refine hK.out _ _ ?_ (fun hH => ?_)
  ·exact ⟨p0, p1, p2, p3, t0, t1, t2, t3⟩
  clear hK KK
  try simp only [Act.put, zq1, zq2, zq3, zq4, zq5, zq6]
  rw [unhide HM] at r3
  rw [unhide HM, unhide HX]
  refine wpAnyH_ready (rs := [7]) (by kernel_rfl) (by simp) ?_
  refine AllReadyH.cons rfl (fun KK hK => ?_) AllReadyH.nil
  simp only [zq1, zq2, zq3]
  rw [if_pos (by rfl)]
  refine wps3 24 (.tmp 71) (.tmp 72) (.tmp 73) _ rfl in_l5round_m (.agg #[.bool (wsg M), v3, .int .i64 (dex M X)]) (.int .i64 mode) (.bool MD) rfl rfl rfl (l5round_spec (wsg M) (dex M X) (by omega) (by omega) _ r3 (wn_dlm M) (odd_dlm M) (dex_nil M X) (by omega) mode hm0 hm4 MD) ?_
  rintro e w8 ⟨rfl, k8⟩
  refine ⟨_, rfl, ?_⟩
  replace r1 := r1.kp k8
  replace r2 := r2.kp k8
  replace r3 := r3.kp k8
  replace qf0 := k8.loose0 (zbl q0) qf0
  replace qf1 := k8.loose0 (zbl q1) qf1
  replace qf2 := k8.loose0 (zbl q2) qf2
  replace qf3 := k8.loose0 (zbl q3) qf3
  replace p0 := k8.cell0 p0
  replace p1 := k8.cell0 p1
  replace p2 := k8.cell0 p2
  replace p3 := k8.cell0 p3
  replace t0 := k8.cell0 t0
  replace t1 := k8.cell0 t1
  replace t2 := k8.cell0 t2
  replace t3 := k8.cell0 t3
  replace q0 := k8.cell0 q0
  replace q1 := k8.cell0 q1
  replace q2 := k8.cell0 q2
  replace q3 := k8.cell0 q3
  replace K := hide ((unhide K).trans k8)
  have z9 := k8.size
  clear k8
  clear hH
  refine hK.out _ _ ?_ (fun hH => ?_)
  ·exact ⟨p0, p1, p2, p3, t0, t1, t2, t3⟩
  clear hK KK
  try simp only [Act.put, zq1, zq2, zq3, zq4, zq5, zq6]
  rw [unhide HA, unhide HGG, unhide HJ]
  refine wpAnyH_take (i := 8) (v := .agg #[.int .i64 A.1, .bool SG, .int .i64 A.2.1, .int .i64 A.2.2]) rfl (by kernel_rfl) (by kernel_rfl) (by kernel_rfl) (fun _ _ _ h => h) (Or.inl ⟨by rfl, ?_⟩) hH ?_
  ·intro wq hSw
   try dsimp only at hSw
   go_simp
  try simp only [Act.put, zq1, zq2, zq3, zq4, zq5, zq6]
  refine wpAnyH_take (i := 9) (v := .int .i64 GG) rfl (by kernel_rfl) (by kernel_rfl) (by kernel_rfl) (fun _ _ _ h => h) (Or.inl ⟨by rfl, ?_⟩) hH ?_
  ·intro wq hSw
   try dsimp only at hSw
   go_simp
  try simp only [Act.put, zq1, zq2, zq3, zq4, zq5, zq6]
  refine wpAnyH_ready (rs := [10]) (by kernel_rfl) (by simp) ?_
  refine AllReadyH.cons rfl (fun KK hK => ?_) AllReadyH.nil
  simp only [zq1, zq2, zq3]
  rw [if_pos (by rfl)]
  go_simp
  clear hH
  refine hK.out _ _ ?_ (fun hH => ?_)
  ·exact ⟨(cell_aside _ (by have := unhide S0; dsimp only; omega) (cw3 (by have := unhide S0; dsimp only; omega) p0)), (cell_aside _ (by have := unhide S0; dsimp only; omega) (cw3 (by have := unhide S0; dsimp only; omega) p1)), (cell_aside _ (by have := unhide S0; dsimp only; omega) (cw3 (by have := unhide S0; dsimp only; omega) p2)), (cell_aside _ (by have := unhide S0; dsimp only; omega) (cw3 (by have := unhide S0; dsimp only; omega) p3)), (cell_aside _ (by have := unhide S0; dsimp only; omega) (cw3 (by have := unhide S0; dsimp only; omega) t0)), (cell_aside _ (by have := unhide S0; dsimp only; omega) (cw3 (by have := unhide S0; dsimp only; omega) t1)), (cell_aside _ (by have := unhide S0; dsimp only; omega) (cw3 (by have := unhide S0; dsimp only; omega) t2)), (cell_aside _ (by have := unhide S0; dsimp only; omega) (cw3 (by have := unhide S0; dsimp only; omega) t3))⟩
  clear hK KK
  try simp only [Act.put, zq1, zq2, zq3, zq4, zq5, zq6]
  refine wpAnyH_take (i := 11) (v := .int .i64 GG) rfl (by kernel_rfl) (by kernel_rfl) (by kernel_rfl) (fun _ _ _ h => h) (Or.inl ⟨by rfl, ?_⟩) hH ?_
  ·intro wq hSw
   try dsimp only at hSw
   go_simp
  try simp only [Act.put, zq1, zq2, zq3, zq4, zq5, zq6]
  refine wpAnyH_done (by kernel_rfl) ?_ _
  clear hH
  have KF := hide (((((unhide K).setNew (p := ⟨w.heap.size + 2, 0, none⟩) (by simp) (.int .i64 A.1)).setNew (p := ⟨w.heap.size + 2, 1, none⟩) (by simp) (.bool SG)).setNew (p := ⟨w.heap.size + 2, 2, none⟩) (by simp) (.int .i64 A.2.1)).setNew (p := ⟨w.heap.size + 2, 3, none⟩) (by simp) (.int .i64 A.2.2))
  clear r1 r2 r3 K
  try go_wp2_with fail
  exact bodyPost_ret (v := .tuple #[.agg #[.int .i64 A.1, .bool SG, .int .i64 A.2.1, .int .i64 A.2.2], .int .i64 GG]) (by simp [results, Tryd.results13, go_sem, q0, q1, q2, q3]) rfl ⟨by rw [unhide FQ], unhide KF⟩

set_option maxHeartbeats 2000000 in
theorem addS_nought_nought_true_true (mode : Int) (hm0 : 0 ≤ mode) (hm4 : mode ≤ 4) (w : World) :
    Calls Tryd.prog 13 #[flv 0 true 0 0, flv 0 true 0 0, .int .i64 mode] w fun e' w' => e' = .returned (.tuple #[flq (addQ 0 true 0 0 0 true 0 0 mode).1, .int .i64 (addQ 0 true 0 0 0 true 0 0 mode).2]) ∧ Kept 0 0 w w' := by
  obtain ⟨Q, hQ⟩ : ∃ q, addQ 0 true 0 0 0 true 0 0 mode = q := ⟨_, rfl⟩
  rw [hQ]
  have HQ := hide hQ
  clear hQ
  obtain ⟨Wn, hn0⟩ : ∃ wz, wz = (((w.alloc (.cells #[.int .i64 0, .bool true, .int .i64 0, .int .i64 0] 24)).alloc (.cells #[.int .i64 0, .bool true, .int .i64 0, .int .i64 0] 24)).alloc (.cells #[.int .i64 0, .bool false, .int .i64 0, .int .i64 0] 24)) := ⟨_, rfl⟩
  have k0 : Kept 0 0 w Wn := by rw [hn0]; exact ((((Kept.refl 0 0 w).alloc _).alloc _).alloc _)
  have p0 : Wn.cell? ⟨w.heap.size, 0, none⟩ = some (.int .i64 0) := by rw [hn0]; exact old_cell _ (old_cell _ (new_cell2 _ _ _ _ _ _ (by simp) rfl))
  have p1 : Wn.cell? ⟨w.heap.size, 1, none⟩ = some (.bool true) := by rw [hn0]; exact old_cell _ (old_cell _ (new_cell2 _ _ _ _ _ _ (by simp) rfl))
  have p2 : Wn.cell? ⟨w.heap.size, 2, none⟩ = some (.int .i64 0) := by rw [hn0]; exact old_cell _ (old_cell _ (new_cell2 _ _ _ _ _ _ (by simp) rfl))
  have p3 : Wn.cell? ⟨w.heap.size, 3, none⟩ = some (.int .i64 0) := by rw [hn0]; exact old_cell _ (old_cell _ (new_cell2 _ _ _ _ _ _ (by simp) rfl))
  have t0 : Wn.cell? ⟨w.heap.size + 1, 0, none⟩ = some (.int .i64 0) := by rw [hn0]; exact old_cell _ (new_cell2 _ _ _ _ _ _ (by simp) rfl)
  have t1 : Wn.cell? ⟨w.heap.size + 1, 1, none⟩ = some (.bool true) := by rw [hn0]; exact old_cell _ (new_cell2 _ _ _ _ _ _ (by simp) rfl)
  have t2 : Wn.cell? ⟨w.heap.size + 1, 2, none⟩ = some (.int .i64 0) := by rw [hn0]; exact old_cell _ (new_cell2 _ _ _ _ _ _ (by simp) rfl)
  have t3 : Wn.cell? ⟨w.heap.size + 1, 3, none⟩ = some (.int .i64 0) := by rw [hn0]; exact old_cell _ (new_cell2 _ _ _ _ _ _ (by simp) rfl)
  have q0 : Wn.cell? ⟨w.heap.size + 2, 0, none⟩ = some (.int .i64 0) := by rw [hn0]; exact new_cell2 _ _ _ _ _ _ (by simp) rfl
  have qf0 : Wn.frozen? ⟨w.heap.size + 2, 0, none⟩ = false := by rw [hn0]; exact new_loose2 _ _ _ _ _ (by simp)
  have q1 : Wn.cell? ⟨w.heap.size + 2, 1, none⟩ = some (.bool false) := by rw [hn0]; exact new_cell2 _ _ _ _ _ _ (by simp) rfl
  have qf1 : Wn.frozen? ⟨w.heap.size + 2, 1, none⟩ = false := by rw [hn0]; exact new_loose2 _ _ _ _ _ (by simp)
  have q2 : Wn.cell? ⟨w.heap.size + 2, 2, none⟩ = some (.int .i64 0) := by rw [hn0]; exact new_cell2 _ _ _ _ _ _ (by simp) rfl
  have qf2 : Wn.frozen? ⟨w.heap.size + 2, 2, none⟩ = false := by rw [hn0]; exact new_loose2 _ _ _ _ _ (by simp)
  have q3 : Wn.cell? ⟨w.heap.size + 2, 3, none⟩ = some (.int .i64 0) := by rw [hn0]; exact new_cell2 _ _ _ _ _ _ (by simp) rfl
  have qf3 : Wn.frozen? ⟨w.heap.size + 2, 3, none⟩ = false := by rw [hn0]; exact new_loose2 _ _ _ _ _ (by simp)
  have s0 : Wn.heap.size = w.heap.size + 3 := by rw [hn0]; exact by simp
  subst hn0
  have K := hide (k0)
  clear k0
  have S0 := hide s0
  clear s0
  go_enter Tryd.func13, Tryd.ntmps13
  obtain ⟨MD, hMD⟩ : ∃ y, (mode == 3) = y := ⟨_, rfl⟩
  go_wp2_with fail
  generalize (((w.alloc (.cells #[.int .i64 0, .bool true, .int .i64 0, .int .i64 0] 24)).alloc (.cells #[.int .i64 0, .bool true, .int .i64 0, .int .i64 0] 24)).alloc (.cells #[.int .i64 0, .bool false, .int .i64 0, .int .i64 0] 24)) = W at *
  have ab1 : (fM 0 true 0).natAbs < 2 ^ 64 := fM_abs _ _ (by omega) (by omega)
  have ab2 : (fM 0 true 0).natAbs < 2 ^ 64 := fM_abs _ _ (by omega) (by omega)
  have ok1 := dok_fl (fM 0 true 0) (0 : Int) ab1 (by omega) (by omega)
  have ok2 := dok_fl (fM 0 true 0) (0 : Int) ab2 (by omega) (by omega)
  have md1 := fun w => dy5_nought true w
  have md2 := fun w => dy5_nought true w
  obtain ⟨s1, hs1⟩ : ∃ y, wsg (fM 0 true 0) = y := ⟨_, rfl⟩
  obtain ⟨s2, hs2⟩ : ∃ y, wsg (fM 0 true 0) = y := ⟨_, rfl⟩
  obtain ⟨z1, hz1⟩ : ∃ y, dlm (fM 0 true 0) = y := ⟨_, rfl⟩
  obtain ⟨z2, hz2⟩ : ∃ y, dlm (fM 0 true 0) = y := ⟨_, rfl⟩
  obtain ⟨x1, hx1⟩ : ∃ y, dex (fM 0 true 0) (0 : Int) = y := ⟨_, rfl⟩
  obtain ⟨x2, hx2⟩ : ∃ y, dex (fM 0 true 0) (0 : Int) = y := ⟨_, rfl⟩
  obtain ⟨M, hM⟩ : ∃ y, wval s1 z1 * 2 ^ (x1 - min x1 x2).toNat + wval s2 z2 * 2 ^ (x2 - min x1 x2).toNat = y := ⟨_, rfl⟩
  obtain ⟨X, hX⟩ : ∃ y, min x1 x2 = y := ⟨_, rfl⟩
  have hfn : ∀ (n : Bool) {m : Int}, 1 ≤ m → (fM 1 n m).natAbs = m.toNat := fun n m h => by unfold fM; cases n <;> simp <;> omega
  have jj := add_fin mode true (fM 0 true 0) (fM 0 true 0) (0 : Int) (0 : Int) M X _ _ (fun h => rfl) (fun h => rfl) (.inr trivial) (by rw [← hM, ← hs1, ← hs2, ← hz1, ← hz2, ← hx1, ← hx2]) (by rw [← hX, ← hx1, ← hx2]) rfl rfl
  have hq : rndQ mode (fM 0 true 0 * 2 ^ ((0 : Int) - min (0 : Int) (0 : Int)).toNat + fM 0 true 0 * 2 ^ ((0 : Int) - min (0 : Int) (0 : Int)).toNat) (min (0 : Int) (0 : Int)) true = Q := by
   rw [← unhide HQ]
   unfold addQ
   simp
  rw [hq] at jj
  have hxb : -3000 ≤ x1 ∧ x1 ≤ 3000 ∧ -3000 ≤ x2 ∧ x2 ≤ 3000 := by
   have g1 := (dok_parts ok1).2
   have g2 := (dok_parts ok2).2
   rw [hx1] at g1
   rw [hx2] at g2
   omega
  rw [hs1, hz1, hx1] at ok1
  rw [hs2, hz2, hx2] at ok2
  obtain ⟨AA, hAA⟩ : ∃ A : Nat, A = 7600 := ⟨_, rfl⟩
  have hMb : M.natAbs < 2 ^ (AA + 1) := by
   have g1 := wok_int (dok_parts ok1).1
   have g2 := wok_int (dok_parts ok2).1
   rw [← hM]
   exact add_lt (al_lt g1.2.2.2.1 g1.2.2.1 _ (by omega) hAA) (al_lt g2.2.2.2.1 g2.2.2.1 _ (by omega) hAA)
  have hdM : -20000 ≤ dex M X ∧ dex M X ≤ 20000 := by
   unfold dex
   split
   ·omega
   ·rename_i hne
    have := tz_lt (n := M.natAbs) (by omega) hMb
    omega
  have hlM : (dlm M).length ≤ 500 := Nat.le_trans (dlm_len (M := M) rfl) (wlm_len hMb (by omega))
  simp only [hs1, hz1, hx1] at md1
  simp only [hs2, hz2, hx2] at md2
  obtain ⟨A, hA⟩ : ∃ y, flA mode (wsg M) (val (dlm M)).toNat (dex M X) = y := ⟨_, rfl⟩
  obtain ⟨GG, hGG⟩ : ∃ y, flG mode (wsg M) (val (dlm M)).toNat (dex M X) = y := ⟨_, rfl⟩
  obtain ⟨SG, hSG⟩ : ∃ y, (if (val (dlm M)).toNat = 0 then true else wsg M) = y := ⟨_, rfl⟩
  rw [hA, hGG, hSG] at jj
  have FQ : Hid (Q = ((A.1, SG, A.2.1, A.2.2), GG)) := jj.symm
  have HA := hide hA
  have HGG := hide hGG
  have HJ := hide hSG
  have HM := hide hM
  have HX := hide hX
  replace md1 := hide md1
  replace md2 := hide md2
  clear hs1 hs2 hz1 hz2 hx1 hx2 hA hGG hSG jj hq hM hX hMb ab1 ab2 hAA hfn
  have n_qf0 := qf0
  have n_q0 := q0
  have n_qf1 := qf1
  have n_q1 := q1
  have n_qf2 := qf2
  have n_q2 := q2
  have n_qf3 := qf3
  have n_q3 := q3
  have kd := (Kept.refl 0 0 W).drew
  replace qf0 := kd.loose0 (zbl q0) qf0
  replace qf1 := kd.loose0 (zbl q1) qf1
  replace qf2 := kd.loose0 (zbl q2) qf2
  replace qf3 := kd.loose0 (zbl q3) qf3
  replace p0 := kd.cell0 p0
  replace p1 := kd.cell0 p1
  replace p2 := kd.cell0 p2
  replace p3 := kd.cell0 p3
  replace t0 := kd.cell0 t0
  replace t1 := kd.cell0 t1
  replace t2 := kd.cell0 t2
  replace t3 := kd.cell0 t3
  replace q0 := kd.cell0 q0
  replace q1 := kd.cell0 q1
  replace q2 := kd.cell0 q2
  replace q3 := kd.cell0 q3
  replace K := hide ((unhide K).trans kd)
  have z1 := kd.size
  clear kd
  refine wp_region_held_drew (S := (fun w' => w'.cell? ⟨w.heap.size, 0, none⟩ = some (.int .i64 0) ∧ w'.cell? ⟨w.heap.size, 1, none⟩ = some (.bool true) ∧ w'.cell? ⟨w.heap.size, 2, none⟩ = some (.int .i64 0) ∧ w'.cell? ⟨w.heap.size, 3, none⟩ = some (.int .i64 0) ∧ w'.cell? ⟨w.heap.size + 1, 0, none⟩ = some (.int .i64 0) ∧ w'.cell? ⟨w.heap.size + 1, 1, none⟩ = some (.bool true) ∧ w'.cell? ⟨w.heap.size + 1, 2, none⟩ = some (.int .i64 0) ∧ w'.cell? ⟨w.heap.size + 1, 3, none⟩ = some (.int .i64 0))) (by kernel_rfl) ?_ (fun hH => ?_)
  ·exact ⟨p0, p1, p2, p3, t0, t1, t2, t3⟩
  refine wpAnyH_take (i := 0) (v := .agg #[.int .i64 0, .bool true, .int .i64 0, .int .i64 0]) rfl (by kernel_rfl) (by kernel_rfl) (by kernel_rfl) (fun _ _ _ h => h) (Or.inl ⟨by rfl, ?_⟩) hH ?_
  ·intro wq hSw
   try dsimp only at hSw
   go_simp
  try simp only [Act.put, zq1, zq2, zq3, zq4, zq5, zq6]
  refine wpAnyH_take (i := 2) (v := .agg #[.int .i64 0, .bool true, .int .i64 0, .int .i64 0]) rfl (by kernel_rfl) (by kernel_rfl) (by kernel_rfl) (fun _ _ _ h => h) (Or.inl ⟨by rfl, ?_⟩) hH ?_
  ·intro wq hSw
   try dsimp only at hSw
   go_simp
  try simp only [Act.put, zq1, zq2, zq3, zq4, zq5, zq6]
  refine wpAnyH_take (i := 5) (v := .int .i64 mode) rfl (by kernel_rfl) (by kernel_rfl) (by kernel_rfl) (fun _ _ _ h => h) (Or.inl ⟨by rfl, ?_⟩) hH ?_
  ·intro wq hSw
   try dsimp only at hSw
   go_simp
  try simp only [Act.put, zq1, zq2, zq3, zq4, zq5, zq6]
  refine wpAnyH_take (i := 6) (v := .bool true) rfl (by kernel_rfl) (by kernel_rfl) (by kernel_rfl) (fun _ _ _ h => h) (Or.inl ⟨by rfl, ?_⟩) hH ?_
  ·intro wq hSw
   try dsimp only at hSw
   go_simp
  try simp only [Act.put, zq1, zq2, zq3, zq4, zq5, zq6]
  refine wpAnyH_ready (rs := [1]) (by kernel_rfl) (by simp) ?_
  refine AllReadyH.cons rfl (fun KK hK => ?_) AllReadyH.nil
  simp only [zq1, zq2, zq3]
  rw [if_pos (by rfl)]
  refine wps1 26 (.tmp 67) _ rfl in_l5dy_m (.agg #[.int .i64 0, .bool true, .int .i64 0, .int .i64 0]) rfl (unhide md1 _) ?_
  rintro e w2 ⟨v1, rfl, r1, k2⟩
  refine ⟨_, rfl, ?_⟩
  replace qf0 := k2.loose0 (zbl q0) qf0
  replace qf1 := k2.loose0 (zbl q1) qf1
  replace qf2 := k2.loose0 (zbl q2) qf2
  replace qf3 := k2.loose0 (zbl q3) qf3
  replace p0 := k2.cell0 p0
  replace p1 := k2.cell0 p1
  replace p2 := k2.cell0 p2
  replace p3 := k2.cell0 p3
  replace t0 := k2.cell0 t0
  replace t1 := k2.cell0 t1
  replace t2 := k2.cell0 t2
  replace t3 := k2.cell0 t3
  replace q0 := k2.cell0 q0
  replace q1 := k2.cell0 q1
  replace q2 := k2.cell0 q2
  replace q3 := k2.cell0 q3
  replace K := hide ((unhide K).trans k2)
  have z3 := k2.size
  clear k2
  clear hH
  refine hK.out _ _ ?_ (fun hH => ?_)
  ·exact ⟨p0, p1, p2, p3, t0, t1, t2, t3⟩
  clear hK KK
  try simp only [Act.put, zq1, zq2, zq3, zq4, zq5, zq6]
  refine wpAnyH_ready (rs := [3]) (by kernel_rfl) (by simp) ?_
  refine AllReadyH.cons rfl (fun KK hK => ?_) AllReadyH.nil
  simp only [zq1, zq2, zq3]
  rw [if_pos (by rfl)]
  refine wps1 26 (.tmp 69) _ rfl in_l5dy_m (.agg #[.int .i64 0, .bool true, .int .i64 0, .int .i64 0]) rfl (unhide md2 _) ?_
  rintro e w4 ⟨v2, rfl, r2, k4⟩
  refine ⟨_, rfl, ?_⟩
  replace r1 := r1.kp k4
  replace qf0 := k4.loose0 (zbl q0) qf0
  replace qf1 := k4.loose0 (zbl q1) qf1
  replace qf2 := k4.loose0 (zbl q2) qf2
  replace qf3 := k4.loose0 (zbl q3) qf3
  replace p0 := k4.cell0 p0
  replace p1 := k4.cell0 p1
  replace p2 := k4.cell0 p2
  replace p3 := k4.cell0 p3
  replace t0 := k4.cell0 t0
  replace t1 := k4.cell0 t1
  replace t2 := k4.cell0 t2
  replace t3 := k4.cell0 t3
  replace q0 := k4.cell0 q0
  replace q1 := k4.cell0 q1
  replace q2 := k4.cell0 q2
  replace q3 := k4.cell0 q3
  replace K := hide ((unhide K).trans k4)
  have z5 := k4.size
  clear k4
  clear hH
  refine hK.out _ _ ?_ (fun hH => ?_)
  ·exact ⟨p0, p1, p2, p3, t0, t1, t2, t3⟩
  clear hK KK
  try simp only [Act.put, zq1, zq2, zq3, zq4, zq5, zq6]
  refine wpAnyH_ready (rs := [4]) (by kernel_rfl) (by simp) ?_
  refine AllReadyH.cons rfl (fun KK hK => ?_) AllReadyH.nil
  simp only [zq1, zq2, zq3]
  rw [if_pos (by rfl)]
  refine wps2 25 (.tmp 68) (.tmp 70) _ rfl in_l4add_m (.agg #[.bool s1, v1, .int .i64 x1]) (.agg #[.bool s2, v2, .int .i64 x2]) rfl rfl (add4_spec s1 s2 x1 x2 _ r1 r2 ok1 ok2) ?_
  rintro e w6 ⟨v3, rfl, r3, k6⟩
  refine ⟨_, rfl, ?_⟩
  replace r1 := r1.kp k6
  replace r2 := r2.kp k6
  replace qf0 := k6.loose0 (zbl q0) qf0
  replace qf1 := k6.loose0 (zbl q1) qf1
  replace qf2 := k6.loose0 (zbl q2) qf2
  replace qf3 := k6.loose0 (zbl q3) qf3
  replace p0 := k6.cell0 p0
  replace p1 := k6.cell0 p1
  replace p2 := k6.cell0 p2
  replace p3 := k6.cell0 p3
  replace t0 := k6.cell0 t0
  replace t1 := k6.cell0 t1
  replace t2 := k6.cell0 t2
  replace t3 := k6.cell0 t3
  replace q0 := k6.cell0 q0
  replace q1 := k6.cell0 q1
  replace q2 := k6.cell0 q2
  replace q3 := k6.cell0 q3
  replace K := hide ((unhide K).trans k6)
  have z7 := k6.size
  clear k6
  clear hH
  refine hK.out _ _ ?_ (fun hH => ?_)
  ·exact ⟨p0, p1, p2, p3, t0, t1, t2, t3⟩
  clear hK KK
  try simp only [Act.put, zq1, zq2, zq3, zq4, zq5, zq6]
  rw [unhide HM] at r3
  rw [unhide HM, unhide HX]
  refine wpAnyH_ready (rs := [7]) (by kernel_rfl) (by simp) ?_
  refine AllReadyH.cons rfl (fun KK hK => ?_) AllReadyH.nil
  simp only [zq1, zq2, zq3]
  rw [if_pos (by rfl)]
  refine wps3 24 (.tmp 71) (.tmp 72) (.tmp 73) _ rfl in_l5round_m (.agg #[.bool (wsg M), v3, .int .i64 (dex M X)]) (.int .i64 mode) (.bool true) rfl rfl rfl (l5round_spec (wsg M) (dex M X) (by omega) (by omega) _ r3 (wn_dlm M) (odd_dlm M) (dex_nil M X) (by omega) mode hm0 hm4 true) ?_
  rintro e w8 ⟨rfl, k8⟩
  refine ⟨_, rfl, ?_⟩
  replace r1 := r1.kp k8
  replace r2 := r2.kp k8
  replace r3 := r3.kp k8
  replace qf0 := k8.loose0 (zbl q0) qf0
  replace qf1 := k8.loose0 (zbl q1) qf1
  replace qf2 := k8.loose0 (zbl q2) qf2
  replace qf3 := k8.loose0 (zbl q3) qf3
  replace p0 := k8.cell0 p0
  replace p1 := k8.cell0 p1
  replace p2 := k8.cell0 p2
  replace p3 := k8.cell0 p3
  replace t0 := k8.cell0 t0
  replace t1 := k8.cell0 t1
  replace t2 := k8.cell0 t2
  replace t3 := k8.cell0 t3
  replace q0 := k8.cell0 q0
  replace q1 := k8.cell0 q1
  replace q2 := k8.cell0 q2
  replace q3 := k8.cell0 q3
  replace K := hide ((unhide K).trans k8)
  have z9 := k8.size
  clear k8
  clear hH
  refine hK.out _ _ ?_ (fun hH => ?_)
  ·exact ⟨p0, p1, p2, p3, t0, t1, t2, t3⟩
  clear hK KK
  try simp only [Act.put, zq1, zq2, zq3, zq4, zq5, zq6]
  rw [unhide HA, unhide HGG, unhide HJ]
  refine wpAnyH_take (i := 8) (v := .agg #[.int .i64 A.1, .bool SG, .int .i64 A.2.1, .int .i64 A.2.2]) rfl (by kernel_rfl) (by kernel_rfl) (by kernel_rfl) (fun _ _ _ h => h) (Or.inl ⟨by rfl, ?_⟩) hH ?_
  ·intro wq hSw
   try dsimp only at hSw
   go_simp
  try simp only [Act.put, zq1, zq2, zq3, zq4, zq5, zq6]
  refine wpAnyH_take (i := 9) (v := .int .i64 GG) rfl (by kernel_rfl) (by kernel_rfl) (by kernel_rfl) (fun _ _ _ h => h) (Or.inl ⟨by rfl, ?_⟩) hH ?_
  ·intro wq hSw
   try dsimp only at hSw
   go_simp
  try simp only [Act.put, zq1, zq2, zq3, zq4, zq5, zq6]
  refine wpAnyH_ready (rs := [10]) (by kernel_rfl) (by simp) ?_
  refine AllReadyH.cons rfl (fun KK hK => ?_) AllReadyH.nil
  simp only [zq1, zq2, zq3]
  rw [if_pos (by rfl)]
  go_simp
  clear hH
  refine hK.out _ _ ?_ (fun hH => ?_)
  ·exact ⟨(cell_aside _ (by have := unhide S0; dsimp only; omega) (cw3 (by have := unhide S0; dsimp only; omega) p0)), (cell_aside _ (by have := unhide S0; dsimp only; omega) (cw3 (by have := unhide S0; dsimp only; omega) p1)), (cell_aside _ (by have := unhide S0; dsimp only; omega) (cw3 (by have := unhide S0; dsimp only; omega) p2)), (cell_aside _ (by have := unhide S0; dsimp only; omega) (cw3 (by have := unhide S0; dsimp only; omega) p3)), (cell_aside _ (by have := unhide S0; dsimp only; omega) (cw3 (by have := unhide S0; dsimp only; omega) t0)), (cell_aside _ (by have := unhide S0; dsimp only; omega) (cw3 (by have := unhide S0; dsimp only; omega) t1)), (cell_aside _ (by have := unhide S0; dsimp only; omega) (cw3 (by have := unhide S0; dsimp only; omega) t2)), (cell_aside _ (by have := unhide S0; dsimp only; omega) (cw3 (by have := unhide S0; dsimp only; omega) t3))⟩
  clear hK KK
  try simp only [Act.put, zq1, zq2, zq3, zq4, zq5, zq6]
  refine wpAnyH_take (i := 11) (v := .int .i64 GG) rfl (by kernel_rfl) (by kernel_rfl) (by kernel_rfl) (fun _ _ _ h => h) (Or.inl ⟨by rfl, ?_⟩) hH ?_
  ·intro wq hSw
   try dsimp only at hSw
   go_simp
  try simp only [Act.put, zq1, zq2, zq3, zq4, zq5, zq6]
  refine wpAnyH_done (by kernel_rfl) ?_ _
  clear hH
  have KF := hide (((((unhide K).setNew (p := ⟨w.heap.size + 2, 0, none⟩) (by simp) (.int .i64 A.1)).setNew (p := ⟨w.heap.size + 2, 1, none⟩) (by simp) (.bool SG)).setNew (p := ⟨w.heap.size + 2, 2, none⟩) (by simp) (.int .i64 A.2.1)).setNew (p := ⟨w.heap.size + 2, 3, none⟩) (by simp) (.int .i64 A.2.2))
  clear r1 r2 r3 K
  try go_wp2_with fail
  exact bodyPost_ret (v := .tuple #[.agg #[.int .i64 A.1, .bool SG, .int .i64 A.2.1, .int .i64 A.2.2], .int .i64 GG]) (by simp [results, Tryd.results13, go_sem, q0, q1, q2, q3]) rfl ⟨by rw [unhide FQ], unhide KF⟩

set_option maxHeartbeats 2000000 in
theorem addS_nought_nought_true_false (mode : Int) (hm0 : 0 ≤ mode) (hm4 : mode ≤ 4) (w : World) :
    Calls Tryd.prog 13 #[flv 0 true 0 0, flv 0 false 0 0, .int .i64 mode] w fun e' w' => e' = .returned (.tuple #[flq (addQ 0 true 0 0 0 false 0 0 mode).1, .int .i64 (addQ 0 true 0 0 0 false 0 0 mode).2]) ∧ Kept 0 0 w w' := by
  obtain ⟨Q, hQ⟩ : ∃ q, addQ 0 true 0 0 0 false 0 0 mode = q := ⟨_, rfl⟩
  rw [hQ]
  have HQ := hide hQ
  clear hQ
  obtain ⟨Wn, hn0⟩ : ∃ wz, wz = (((w.alloc (.cells #[.int .i64 0, .bool true, .int .i64 0, .int .i64 0] 24)).alloc (.cells #[.int .i64 0, .bool false, .int .i64 0, .int .i64 0] 24)).alloc (.cells #[.int .i64 0, .bool false, .int .i64 0, .int .i64 0] 24)) := ⟨_, rfl⟩
  have k0 : Kept 0 0 w Wn := by rw [hn0]; exact ((((Kept.refl 0 0 w).alloc _).alloc _).alloc _)
  have p0 : Wn.cell? ⟨w.heap.size, 0, none⟩ = some (.int .i64 0) := by rw [hn0]; exact old_cell _ (old_cell _ (new_cell2 _ _ _ _ _ _ (by simp) rfl))
  have p1 : Wn.cell? ⟨w.heap.size, 1, none⟩ = some (.bool true) := by rw [hn0]; exact old_cell _ (old_cell _ (new_cell2 _ _ _ _ _ _ (by simp) rfl))
  have p2 : Wn.cell? ⟨w.heap.size, 2, none⟩ = some (.int .i64 0) := by rw [hn0]; exact old_cell _ (old_cell _ (new_cell2 _ _ _ _ _ _ (by simp) rfl))
  have p3 : Wn.cell? ⟨w.heap.size, 3, none⟩ = some (.int .i64 0) := by rw [hn0]; exact old_cell _ (old_cell _ (new_cell2 _ _ _ _ _ _ (by simp) rfl))
  have t0 : Wn.cell? ⟨w.heap.size + 1, 0, none⟩ = some (.int .i64 0) := by rw [hn0]; exact old_cell _ (new_cell2 _ _ _ _ _ _ (by simp) rfl)
  have t1 : Wn.cell? ⟨w.heap.size + 1, 1, none⟩ = some (.bool false) := by rw [hn0]; exact old_cell _ (new_cell2 _ _ _ _ _ _ (by simp) rfl)
  have t2 : Wn.cell? ⟨w.heap.size + 1, 2, none⟩ = some (.int .i64 0) := by rw [hn0]; exact old_cell _ (new_cell2 _ _ _ _ _ _ (by simp) rfl)
  have t3 : Wn.cell? ⟨w.heap.size + 1, 3, none⟩ = some (.int .i64 0) := by rw [hn0]; exact old_cell _ (new_cell2 _ _ _ _ _ _ (by simp) rfl)
  have q0 : Wn.cell? ⟨w.heap.size + 2, 0, none⟩ = some (.int .i64 0) := by rw [hn0]; exact new_cell2 _ _ _ _ _ _ (by simp) rfl
  have qf0 : Wn.frozen? ⟨w.heap.size + 2, 0, none⟩ = false := by rw [hn0]; exact new_loose2 _ _ _ _ _ (by simp)
  have q1 : Wn.cell? ⟨w.heap.size + 2, 1, none⟩ = some (.bool false) := by rw [hn0]; exact new_cell2 _ _ _ _ _ _ (by simp) rfl
  have qf1 : Wn.frozen? ⟨w.heap.size + 2, 1, none⟩ = false := by rw [hn0]; exact new_loose2 _ _ _ _ _ (by simp)
  have q2 : Wn.cell? ⟨w.heap.size + 2, 2, none⟩ = some (.int .i64 0) := by rw [hn0]; exact new_cell2 _ _ _ _ _ _ (by simp) rfl
  have qf2 : Wn.frozen? ⟨w.heap.size + 2, 2, none⟩ = false := by rw [hn0]; exact new_loose2 _ _ _ _ _ (by simp)
  have q3 : Wn.cell? ⟨w.heap.size + 2, 3, none⟩ = some (.int .i64 0) := by rw [hn0]; exact new_cell2 _ _ _ _ _ _ (by simp) rfl
  have qf3 : Wn.frozen? ⟨w.heap.size + 2, 3, none⟩ = false := by rw [hn0]; exact new_loose2 _ _ _ _ _ (by simp)
  have s0 : Wn.heap.size = w.heap.size + 3 := by rw [hn0]; exact by simp
  subst hn0
  have K := hide (k0)
  clear k0
  have S0 := hide s0
  clear s0
  go_enter Tryd.func13, Tryd.ntmps13
  obtain ⟨MD, hMD⟩ : ∃ y, (mode == 3) = y := ⟨_, rfl⟩
  go_wp2_with fail
  generalize (((w.alloc (.cells #[.int .i64 0, .bool true, .int .i64 0, .int .i64 0] 24)).alloc (.cells #[.int .i64 0, .bool false, .int .i64 0, .int .i64 0] 24)).alloc (.cells #[.int .i64 0, .bool false, .int .i64 0, .int .i64 0] 24)) = W at *
  have ab1 : (fM 0 true 0).natAbs < 2 ^ 64 := fM_abs _ _ (by omega) (by omega)
  have ab2 : (fM 0 false 0).natAbs < 2 ^ 64 := fM_abs _ _ (by omega) (by omega)
  have ok1 := dok_fl (fM 0 true 0) (0 : Int) ab1 (by omega) (by omega)
  have ok2 := dok_fl (fM 0 false 0) (0 : Int) ab2 (by omega) (by omega)
  have md1 := fun w => dy5_nought true w
  have md2 := fun w => dy5_nought false w
  obtain ⟨s1, hs1⟩ : ∃ y, wsg (fM 0 true 0) = y := ⟨_, rfl⟩
  obtain ⟨s2, hs2⟩ : ∃ y, wsg (fM 0 false 0) = y := ⟨_, rfl⟩
  obtain ⟨z1, hz1⟩ : ∃ y, dlm (fM 0 true 0) = y := ⟨_, rfl⟩
  obtain ⟨z2, hz2⟩ : ∃ y, dlm (fM 0 false 0) = y := ⟨_, rfl⟩
  obtain ⟨x1, hx1⟩ : ∃ y, dex (fM 0 true 0) (0 : Int) = y := ⟨_, rfl⟩
  obtain ⟨x2, hx2⟩ : ∃ y, dex (fM 0 false 0) (0 : Int) = y := ⟨_, rfl⟩
  obtain ⟨M, hM⟩ : ∃ y, wval s1 z1 * 2 ^ (x1 - min x1 x2).toNat + wval s2 z2 * 2 ^ (x2 - min x1 x2).toNat = y := ⟨_, rfl⟩
  obtain ⟨X, hX⟩ : ∃ y, min x1 x2 = y := ⟨_, rfl⟩
  have hfn : ∀ (n : Bool) {m : Int}, 1 ≤ m → (fM 1 n m).natAbs = m.toNat := fun n m h => by unfold fM; cases n <;> simp <;> omega
  have jj := add_fin mode MD (fM 0 true 0) (fM 0 false 0) (0 : Int) (0 : Int) M X _ _ (fun h => rfl) (fun h => rfl) (.inr trivial) (by rw [← hM, ← hs1, ← hs2, ← hz1, ← hz2, ← hx1, ← hx2]) (by rw [← hX, ← hx1, ← hx2]) rfl rfl
  have hq : rndQ mode (fM 0 true 0 * 2 ^ ((0 : Int) - min (0 : Int) (0 : Int)).toNat + fM 0 false 0 * 2 ^ ((0 : Int) - min (0 : Int) (0 : Int)).toNat) (min (0 : Int) (0 : Int)) MD = Q := by
   rw [← unhide HQ, ← hMD]
   unfold addQ
   simp
  rw [hq] at jj
  have hxb : -3000 ≤ x1 ∧ x1 ≤ 3000 ∧ -3000 ≤ x2 ∧ x2 ≤ 3000 := by
   have g1 := (dok_parts ok1).2
   have g2 := (dok_parts ok2).2
   rw [hx1] at g1
   rw [hx2] at g2
   omega
  rw [hs1, hz1, hx1] at ok1
  rw [hs2, hz2, hx2] at ok2
  obtain ⟨AA, hAA⟩ : ∃ A : Nat, A = 7600 := ⟨_, rfl⟩
  have hMb : M.natAbs < 2 ^ (AA + 1) := by
   have g1 := wok_int (dok_parts ok1).1
   have g2 := wok_int (dok_parts ok2).1
   rw [← hM]
   exact add_lt (al_lt g1.2.2.2.1 g1.2.2.1 _ (by omega) hAA) (al_lt g2.2.2.2.1 g2.2.2.1 _ (by omega) hAA)
  have hdM : -20000 ≤ dex M X ∧ dex M X ≤ 20000 := by
   unfold dex
   split
   ·omega
   ·rename_i hne
    have := tz_lt (n := M.natAbs) (by omega) hMb
    omega
  have hlM : (dlm M).length ≤ 500 := Nat.le_trans (dlm_len (M := M) rfl) (wlm_len hMb (by omega))
  simp only [hs1, hz1, hx1] at md1
  simp only [hs2, hz2, hx2] at md2
  obtain ⟨A, hA⟩ : ∃ y, flA mode (wsg M) (val (dlm M)).toNat (dex M X) = y := ⟨_, rfl⟩
  obtain ⟨GG, hGG⟩ : ∃ y, flG mode (wsg M) (val (dlm M)).toNat (dex M X) = y := ⟨_, rfl⟩
  obtain ⟨SG, hSG⟩ : ∃ y, (if (val (dlm M)).toNat = 0 then MD else wsg M) = y := ⟨_, rfl⟩
  rw [hA, hGG, hSG] at jj
  have FQ : Hid (Q = ((A.1, SG, A.2.1, A.2.2), GG)) := jj.symm
  have HA := hide hA
  have HGG := hide hGG
  have HJ := hide hSG
  have HM := hide hM
  have HX := hide hX
  replace md1 := hide md1
  replace md2 := hide md2
  clear hs1 hs2 hz1 hz2 hx1 hx2 hA hGG hSG jj hq hM hX hMb ab1 ab2 hAA hfn
  have n_qf0 := qf0
  have n_q0 := q0
  have n_qf1 := qf1
  have n_q1 := q1
  have n_qf2 := qf2
  have n_q2 := q2
  have n_qf3 := qf3
  have n_q3 := q3
  have kd := (Kept.refl 0 0 W).drew
  replace qf0 := kd.loose0 (zbl q0) qf0
  replace qf1 := kd.loose0 (zbl q1) qf1
  replace qf2 := kd.loose0 (zbl q2) qf2
  replace qf3 := kd.loose0 (zbl q3) qf3
  replace p0 := kd.cell0 p0
  replace p1 := kd.cell0 p1
  replace p2 := kd.cell0 p2
  replace p3 := kd.cell0 p3
  replace t0 := kd.cell0 t0
  replace t1 := kd.cell0 t1
  replace t2 := kd.cell0 t2
  replace t3 := kd.cell0 t3
  replace q0 := kd.cell0 q0
  replace q1 := kd.cell0 q1
  replace q2 := kd.cell0 q2
  replace q3 := kd.cell0 q3
  replace K := hide ((unhide K).trans kd)
  have z1 := kd.size
  clear kd
  refine wp_region_held_drew (S := (fun w' => w'.cell? ⟨w.heap.size, 0, none⟩ = some (.int .i64 0) ∧ w'.cell? ⟨w.heap.size, 1, none⟩ = some (.bool true) ∧ w'.cell? ⟨w.heap.size, 2, none⟩ = some (.int .i64 0) ∧ w'.cell? ⟨w.heap.size, 3, none⟩ = some (.int .i64 0) ∧ w'.cell? ⟨w.heap.size + 1, 0, none⟩ = some (.int .i64 0) ∧ w'.cell? ⟨w.heap.size + 1, 1, none⟩ = some (.bool false) ∧ w'.cell? ⟨w.heap.size + 1, 2, none⟩ = some (.int .i64 0) ∧ w'.cell? ⟨w.heap.size + 1, 3, none⟩ = some (.int .i64 0))) (by kernel_rfl) ?_ (fun hH => ?_)
  ·exact ⟨p0, p1, p2, p3, t0, t1, t2, t3⟩
  refine wpAnyH_take (i := 0) (v := .agg #[.int .i64 0, .bool true, .int .i64 0, .int .i64 0]) rfl (by kernel_rfl) (by kernel_rfl) (by kernel_rfl) (fun _ _ _ h => h) (Or.inl ⟨by rfl, ?_⟩) hH ?_
  ·intro wq hSw
   try dsimp only at hSw
   go_simp
  try simp only [Act.put, zq1, zq2, zq3, zq4, zq5, zq6]
  refine wpAnyH_take (i := 2) (v := .agg #[.int .i64 0, .bool false, .int .i64 0, .int .i64 0]) rfl (by kernel_rfl) (by kernel_rfl) (by kernel_rfl) (fun _ _ _ h => h) (Or.inl ⟨by rfl, ?_⟩) hH ?_
  ·intro wq hSw
   try dsimp only at hSw
   go_simp
  try simp only [Act.put, zq1, zq2, zq3, zq4, zq5, zq6]
  refine wpAnyH_take (i := 5) (v := .int .i64 mode) rfl (by kernel_rfl) (by kernel_rfl) (by kernel_rfl) (fun _ _ _ h => h) (Or.inl ⟨by rfl, ?_⟩) hH ?_
  ·intro wq hSw
   try dsimp only at hSw
   go_simp
  try simp only [Act.put, zq1, zq2, zq3, zq4, zq5, zq6]
  refine wpAnyH_take (i := 6) (v := .bool MD) rfl (by kernel_rfl) (by kernel_rfl) (by kernel_rfl) (fun _ _ _ h => h) (Or.inl ⟨by rfl, ?_⟩) hH ?_
  ·intro wq hSw
   try dsimp only at hSw
   go_simp
  try simp only [Act.put, zq1, zq2, zq3, zq4, zq5, zq6]
  refine wpAnyH_ready (rs := [1]) (by kernel_rfl) (by simp) ?_
  refine AllReadyH.cons rfl (fun KK hK => ?_) AllReadyH.nil
  simp only [zq1, zq2, zq3]
  rw [if_pos (by rfl)]
  refine wps1 26 (.tmp 67) _ rfl in_l5dy_m (.agg #[.int .i64 0, .bool true, .int .i64 0, .int .i64 0]) rfl (unhide md1 _) ?_
  rintro e w2 ⟨v1, rfl, r1, k2⟩
  refine ⟨_, rfl, ?_⟩
  replace qf0 := k2.loose0 (zbl q0) qf0
  replace qf1 := k2.loose0 (zbl q1) qf1
  replace qf2 := k2.loose0 (zbl q2) qf2
  replace qf3 := k2.loose0 (zbl q3) qf3
  replace p0 := k2.cell0 p0
  replace p1 := k2.cell0 p1
  replace p2 := k2.cell0 p2
  replace p3 := k2.cell0 p3
  replace t0 := k2.cell0 t0
  replace t1 := k2.cell0 t1
  replace t2 := k2.cell0 t2
  replace t3 := k2.cell0 t3
  replace q0 := k2.cell0 q0
  replace q1 := k2.cell0 q1
  replace q2 := k2.cell0 q2
  replace q3 := k2.cell0 q3
  replace K := hide ((unhide K).trans k2)
  have z3 := k2.size
  clear k2
  clear hH
  refine hK.out _ _ ?_ (fun hH => ?_)
  ·exact ⟨p0, p1, p2, p3, t0, t1, t2, t3⟩
  clear hK KK
  try simp only [Act.put, zq1, zq2, zq3, zq4, zq5, zq6]
  refine wpAnyH_ready (rs := [3]) (by kernel_rfl) (by simp) ?_
  refine AllReadyH.cons rfl (fun KK hK => ?_) AllReadyH.nil
  simp only [zq1, zq2, zq3]
  rw [if_pos (by rfl)]
  refine wps1 26 (.tmp 69) _ rfl in_l5dy_m (.agg #[.int .i64 0, .bool false, .int .i64 0, .int .i64 0]) rfl (unhide md2 _) ?_
  rintro e w4 ⟨v2, rfl, r2, k4⟩
  refine ⟨_, rfl, ?_⟩
  replace r1 := r1.kp k4
  replace qf0 := k4.loose0 (zbl q0) qf0
  replace qf1 := k4.loose0 (zbl q1) qf1
  replace qf2 := k4.loose0 (zbl q2) qf2
  replace qf3 := k4.loose0 (zbl q3) qf3
  replace p0 := k4.cell0 p0
  replace p1 := k4.cell0 p1
  replace p2 := k4.cell0 p2
  replace p3 := k4.cell0 p3
  replace t0 := k4.cell0 t0
  replace t1 := k4.cell0 t1
  replace t2 := k4.cell0 t2
  replace t3 := k4.cell0 t3
  replace q0 := k4.cell0 q0
  replace q1 := k4.cell0 q1
  replace q2 := k4.cell0 q2
  replace q3 := k4.cell0 q3
  replace K := hide ((unhide K).trans k4)
  have z5 := k4.size
  clear k4
  clear hH
  refine hK.out _ _ ?_ (fun hH => ?_)
  ·exact ⟨p0, p1, p2, p3, t0, t1, t2, t3⟩
  clear hK KK
  try simp only [Act.put, zq1, zq2, zq3, zq4, zq5, zq6]
  refine wpAnyH_ready (rs := [4]) (by kernel_rfl) (by simp) ?_
  refine AllReadyH.cons rfl (fun KK hK => ?_) AllReadyH.nil
  simp only [zq1, zq2, zq3]
  rw [if_pos (by rfl)]
  refine wps2 25 (.tmp 68) (.tmp 70) _ rfl in_l4add_m (.agg #[.bool s1, v1, .int .i64 x1]) (.agg #[.bool s2, v2, .int .i64 x2]) rfl rfl (add4_spec s1 s2 x1 x2 _ r1 r2 ok1 ok2) ?_
  rintro e w6 ⟨v3, rfl, r3, k6⟩
  refine ⟨_, rfl, ?_⟩
  replace r1 := r1.kp k6
  replace r2 := r2.kp k6
  replace qf0 := k6.loose0 (zbl q0) qf0
  replace qf1 := k6.loose0 (zbl q1) qf1
  replace qf2 := k6.loose0 (zbl q2) qf2
  replace qf3 := k6.loose0 (zbl q3) qf3
  replace p0 := k6.cell0 p0
  replace p1 := k6.cell0 p1
  replace p2 := k6.cell0 p2
  replace p3 := k6.cell0 p3
  replace t0 := k6.cell0 t0
  replace t1 := k6.cell0 t1
  replace t2 := k6.cell0 t2
  replace t3 := k6.cell0 t3
  replace q0 := k6.cell0 q0
  replace q1 := k6.cell0 q1
  replace q2 := k6.cell0 q2
  replace q3 := k6.cell0 q3
  replace K := hide ((unhide K).trans k6)
  have z7 := k6.size
  clear k6
  clear hH
  refine hK.out _ _ ?_ (fun hH => ?_)
  ·exact ⟨p0, p1, p2, p3, t0, t1, t2, t3⟩
  clear hK KK
  try simp only [Act.put, zq1, zq2, zq3, zq4, zq5, zq6]
  rw [unhide HM] at r3
  rw [unhide HM, unhide HX]
  refine wpAnyH_ready (rs := [7]) (by kernel_rfl) (by simp) ?_
  refine AllReadyH.cons rfl (fun KK hK => ?_) AllReadyH.nil
  simp only [zq1, zq2, zq3]
  rw [if_pos (by rfl)]
  refine wps3 24 (.tmp 71) (.tmp 72) (.tmp 73) _ rfl in_l5round_m (.agg #[.bool (wsg M), v3, .int .i64 (dex M X)]) (.int .i64 mode) (.bool MD) rfl rfl rfl (l5round_spec (wsg M) (dex M X) (by omega) (by omega) _ r3 (wn_dlm M) (odd_dlm M) (dex_nil M X) (by omega) mode hm0 hm4 MD) ?_
  rintro e w8 ⟨rfl, k8⟩
  refine ⟨_, rfl, ?_⟩
  replace r1 := r1.kp k8
  replace r2 := r2.kp k8
  replace r3 := r3.kp k8
  replace qf0 := k8.loose0 (zbl q0) qf0
  replace qf1 := k8.loose0 (zbl q1) qf1
  replace qf2 := k8.loose0 (zbl q2) qf2
  replace qf3 := k8.loose0 (zbl q3) qf3
  replace p0 := k8.cell0 p0
  replace p1 := k8.cell0 p1
  replace p2 := k8.cell0 p2
  replace p3 := k8.cell0 p3
  replace t0 := k8.cell0 t0
  replace t1 := k8.cell0 t1
  replace t2 := k8.cell0 t2
  replace t3 := k8.cell0 t3
  replace q0 := k8.cell0 q0
  replace q1 := k8.cell0 q1
  replace q2 := k8.cell0 q2
  replace q3 := k8.cell0 q3
  replace K := hide ((unhide K).trans k8)
  have z9 := k8.size
  clear k8
  clear hH
  refine hK.out _ _ ?_ (fun hH => ?_)
  ·exact ⟨p0, p1, p2, p3, t0, t1, t2, t3⟩
  clear hK KK
  try simp only [Act.put, zq1, zq2, zq3, zq4, zq5, zq6]
  rw [unhide HA, unhide HGG, unhide HJ]
  refine wpAnyH_take (i := 8) (v := .agg #[.int .i64 A.1, .bool SG, .int .i64 A.2.1, .int .i64 A.2.2]) rfl (by kernel_rfl) (by kernel_rfl) (by kernel_rfl) (fun _ _ _ h => h) (Or.inl ⟨by rfl, ?_⟩) hH ?_
  ·intro wq hSw
   try dsimp only at hSw
   go_simp
  try simp only [Act.put, zq1, zq2, zq3, zq4, zq5, zq6]
  refine wpAnyH_take (i := 9) (v := .int .i64 GG) rfl (by kernel_rfl) (by kernel_rfl) (by kernel_rfl) (fun _ _ _ h => h) (Or.inl ⟨by rfl, ?_⟩) hH ?_
  ·intro wq hSw
   try dsimp only at hSw
   go_simp
  try simp only [Act.put, zq1, zq2, zq3, zq4, zq5, zq6]
  refine wpAnyH_ready (rs := [10]) (by kernel_rfl) (by simp) ?_
  refine AllReadyH.cons rfl (fun KK hK => ?_) AllReadyH.nil
  simp only [zq1, zq2, zq3]
  rw [if_pos (by rfl)]
  go_simp
  clear hH
  refine hK.out _ _ ?_ (fun hH => ?_)
  ·exact ⟨(cell_aside _ (by have := unhide S0; dsimp only; omega) (cw3 (by have := unhide S0; dsimp only; omega) p0)), (cell_aside _ (by have := unhide S0; dsimp only; omega) (cw3 (by have := unhide S0; dsimp only; omega) p1)), (cell_aside _ (by have := unhide S0; dsimp only; omega) (cw3 (by have := unhide S0; dsimp only; omega) p2)), (cell_aside _ (by have := unhide S0; dsimp only; omega) (cw3 (by have := unhide S0; dsimp only; omega) p3)), (cell_aside _ (by have := unhide S0; dsimp only; omega) (cw3 (by have := unhide S0; dsimp only; omega) t0)), (cell_aside _ (by have := unhide S0; dsimp only; omega) (cw3 (by have := unhide S0; dsimp only; omega) t1)), (cell_aside _ (by have := unhide S0; dsimp only; omega) (cw3 (by have := unhide S0; dsimp only; omega) t2)), (cell_aside _ (by have := unhide S0; dsimp only; omega) (cw3 (by have := unhide S0; dsimp only; omega) t3))⟩
  clear hK KK
  try simp only [Act.put, zq1, zq2, zq3, zq4, zq5, zq6]
  refine wpAnyH_take (i := 11) (v := .int .i64 GG) rfl (by kernel_rfl) (by kernel_rfl) (by kernel_rfl) (fun _ _ _ h => h) (Or.inl ⟨by rfl, ?_⟩) hH ?_
  ·intro wq hSw
   try dsimp only at hSw
   go_simp
  try simp only [Act.put, zq1, zq2, zq3, zq4, zq5, zq6]
  refine wpAnyH_done (by kernel_rfl) ?_ _
  clear hH
  have KF := hide (((((unhide K).setNew (p := ⟨w.heap.size + 2, 0, none⟩) (by simp) (.int .i64 A.1)).setNew (p := ⟨w.heap.size + 2, 1, none⟩) (by simp) (.bool SG)).setNew (p := ⟨w.heap.size + 2, 2, none⟩) (by simp) (.int .i64 A.2.1)).setNew (p := ⟨w.heap.size + 2, 3, none⟩) (by simp) (.int .i64 A.2.2))
  clear r1 r2 r3 K
  try go_wp2_with fail
  exact bodyPost_ret (v := .tuple #[.agg #[.int .i64 A.1, .bool SG, .int .i64 A.2.1, .int .i64 A.2.2], .int .i64 GG]) (by simp [results, Tryd.results13, go_sem, q0, q1, q2, q3]) rfl ⟨by rw [unhide FQ], unhide KF⟩

set_option maxHeartbeats 2000000 in
theorem addS_nought_nought_false_true (mode : Int) (hm0 : 0 ≤ mode) (hm4 : mode ≤ 4) (w : World) :
    Calls Tryd.prog 13 #[flv 0 false 0 0, flv 0 true 0 0, .int .i64 mode] w fun e' w' => e' = .returned (.tuple #[flq (addQ 0 false 0 0 0 true 0 0 mode).1, .int .i64 (addQ 0 false 0 0 0 true 0 0 mode).2]) ∧ Kept 0 0 w w' := by
  obtain ⟨Q, hQ⟩ : ∃ q, addQ 0 false 0 0 0 true 0 0 mode = q := ⟨_, rfl⟩
  rw [hQ]
  have HQ := hide hQ
  clear hQ
  obtain ⟨Wn, hn0⟩ : ∃ wz, wz = (((w.alloc (.cells #[.int .i64 0, .bool false, .int .i64 0, .int .i64 0] 24)).alloc (.cells #[.int .i64 0, .bool true, .int .i64 0, .int .i64 0] 24)).alloc (.cells #[.int .i64 0, .bool false, .int .i64 0, .int .i64 0] 24)) := ⟨_, rfl⟩
  have k0 : Kept 0 0 w Wn := by rw [hn0]; exact ((((Kept.refl 0 0 w).alloc _).alloc _).alloc _)
  have p0 : Wn.cell? ⟨w.heap.size, 0, none⟩ = some (.int .i64 0) := by rw [hn0]; exact old_cell _ (old_cell _ (new_cell2 _ _ _ _ _ _ (by simp) rfl))
  have p1 : Wn.cell? ⟨w.heap.size, 1, none⟩ = some (.bool false) := by rw [hn0]; exact old_cell _ (old_cell _ (new_cell2 _ _ _ _ _ _ (by simp) rfl))
  have p2 : Wn.cell? ⟨w.heap.size, 2, none⟩ = some (.int .i64 0) := by rw [hn0]; exact old_cell _ (old_cell _ (new_cell2 _ _ _ _ _ _ (by simp) rfl))
  have p3 : Wn.cell? ⟨w.heap.size, 3, none⟩ = some (.int .i64 0) := by rw [hn0]; exact old_cell _ (old_cell _ (new_cell2 _ _ _ _ _ _ (by simp) rfl))
  have t0 : Wn.cell? ⟨w.heap.size + 1, 0, none⟩ = some (.int .i64 0) := by rw [hn0]; exact old_cell _ (new_cell2 _ _ _ _ _ _ (by simp) rfl)
  have t1 : Wn.cell? ⟨w.heap.size + 1, 1, none⟩ = some (.bool true) := by rw [hn0]; exact old_cell _ (new_cell2 _ _ _ _ _ _ (by simp) rfl)
  have t2 : Wn.cell? ⟨w.heap.size + 1, 2, none⟩ = some (.int .i64 0) := by rw [hn0]; exact old_cell _ (new_cell2 _ _ _ _ _ _ (by simp) rfl)
  have t3 : Wn.cell? ⟨w.heap.size + 1, 3, none⟩ = some (.int .i64 0) := by rw [hn0]; exact old_cell _ (new_cell2 _ _ _ _ _ _ (by simp) rfl)
  have q0 : Wn.cell? ⟨w.heap.size + 2, 0, none⟩ = some (.int .i64 0) := by rw [hn0]; exact new_cell2 _ _ _ _ _ _ (by simp) rfl
  have qf0 : Wn.frozen? ⟨w.heap.size + 2, 0, none⟩ = false := by rw [hn0]; exact new_loose2 _ _ _ _ _ (by simp)
  have q1 : Wn.cell? ⟨w.heap.size + 2, 1, none⟩ = some (.bool false) := by rw [hn0]; exact new_cell2 _ _ _ _ _ _ (by simp) rfl
  have qf1 : Wn.frozen? ⟨w.heap.size + 2, 1, none⟩ = false := by rw [hn0]; exact new_loose2 _ _ _ _ _ (by simp)
  have q2 : Wn.cell? ⟨w.heap.size + 2, 2, none⟩ = some (.int .i64 0) := by rw [hn0]; exact new_cell2 _ _ _ _ _ _ (by simp) rfl
  have qf2 : Wn.frozen? ⟨w.heap.size + 2, 2, none⟩ = false := by rw [hn0]; exact new_loose2 _ _ _ _ _ (by simp)
  have q3 : Wn.cell? ⟨w.heap.size + 2, 3, none⟩ = some (.int .i64 0) := by rw [hn0]; exact new_cell2 _ _ _ _ _ _ (by simp) rfl
  have qf3 : Wn.frozen? ⟨w.heap.size + 2, 3, none⟩ = false := by rw [hn0]; exact new_loose2 _ _ _ _ _ (by simp)
  have s0 : Wn.heap.size = w.heap.size + 3 := by rw [hn0]; exact by simp
  subst hn0
  have K := hide (k0)
  clear k0
  have S0 := hide s0
  clear s0
  go_enter Tryd.func13, Tryd.ntmps13
  obtain ⟨MD, hMD⟩ : ∃ y, (mode == 3) = y := ⟨_, rfl⟩
  go_wp2_with fail
  generalize (((w.alloc (.cells #[.int .i64 0, .bool false, .int .i64 0, .int .i64 0] 24)).alloc (.cells #[.int .i64 0, .bool true, .int .i64 0, .int .i64 0] 24)).alloc (.cells #[.int .i64 0, .bool false, .int .i64 0, .int .i64 0] 24)) = W at *
  have ab1 : (fM 0 false 0).natAbs < 2 ^ 64 := fM_abs _ _ (by omega) (by omega)
  have ab2 : (fM 0 true 0).natAbs < 2 ^ 64 := fM_abs _ _ (by omega) (by omega)
  have ok1 := dok_fl (fM 0 false 0) (0 : Int) ab1 (by omega) (by omega)
  have ok2 := dok_fl (fM 0 true 0) (0 : Int) ab2 (by omega) (by omega)
  have md1 := fun w => dy5_nought false w
  have md2 := fun w => dy5_nought true w
  obtain ⟨s1, hs1⟩ : ∃ y, wsg (fM 0 false 0) = y := ⟨_, rfl⟩
  obtain ⟨s2, hs2⟩ : ∃ y, wsg (fM 0 true 0) = y := ⟨_, rfl⟩
  obtain ⟨z1, hz1⟩ : ∃ y, dlm (fM 0 false 0) = y := ⟨_, rfl⟩
  obtain ⟨z2, hz2⟩ : ∃ y, dlm (fM 0 true 0) = y := ⟨_, rfl⟩
  obtain ⟨x1, hx1⟩ : ∃ y, dex (fM 0 false 0) (0 : Int) = y := ⟨_, rfl⟩
  obtain ⟨x2, hx2⟩ : ∃ y, dex (fM 0 true 0) (0 : Int) = y := ⟨_, rfl⟩
  obtain ⟨M, hM⟩ : ∃ y, wval s1 z1 * 2 ^ (x1 - min x1 x2).toNat + wval s2 z2 * 2 ^ (x2 - min x1 x2).toNat = y := ⟨_, rfl⟩
  obtain ⟨X, hX⟩ : ∃ y, min x1 x2 = y := ⟨_, rfl⟩
  have hfn : ∀ (n : Bool) {m : Int}, 1 ≤ m → (fM 1 n m).natAbs = m.toNat := fun n m h => by unfold fM; cases n <;> simp <;> omega
  have jj := add_fin mode MD (fM 0 false 0) (fM 0 true 0) (0 : Int) (0 : Int) M X _ _ (fun h => rfl) (fun h => rfl) (.inr trivial) (by rw [← hM, ← hs1, ← hs2, ← hz1, ← hz2, ← hx1, ← hx2]) (by rw [← hX, ← hx1, ← hx2]) rfl rfl
  have hq : rndQ mode (fM 0 false 0 * 2 ^ ((0 : Int) - min (0 : Int) (0 : Int)).toNat + fM 0 true 0 * 2 ^ ((0 : Int) - min (0 : Int) (0 : Int)).toNat) (min (0 : Int) (0 : Int)) MD = Q := by
   rw [← unhide HQ, ← hMD]
   unfold addQ
   simp
  rw [hq] at jj
  have hxb : -3000 ≤ x1 ∧ x1 ≤ 3000 ∧ -3000 ≤ x2 ∧ x2 ≤ 3000 := by
   have g1 := (dok_parts ok1).2
   have g2 := (dok_parts ok2).2
   rw [hx1] at g1
   rw [hx2] at g2
   omega
  rw [hs1, hz1, hx1] at ok1
  rw [hs2, hz2, hx2] at ok2
  obtain ⟨AA, hAA⟩ : ∃ A : Nat, A = 7600 := ⟨_, rfl⟩
  have hMb : M.natAbs < 2 ^ (AA + 1) := by
   have g1 := wok_int (dok_parts ok1).1
   have g2 := wok_int (dok_parts ok2).1
   rw [← hM]
   exact add_lt (al_lt g1.2.2.2.1 g1.2.2.1 _ (by omega) hAA) (al_lt g2.2.2.2.1 g2.2.2.1 _ (by omega) hAA)
  have hdM : -20000 ≤ dex M X ∧ dex M X ≤ 20000 := by
   unfold dex
   split
   ·omega
   ·rename_i hne
    have := tz_lt (n := M.natAbs) (by omega) hMb
    omega
  have hlM : (dlm M).length ≤ 500 := Nat.le_trans (dlm_len (M := M) rfl) (wlm_len hMb (by omega))
  simp only [hs1, hz1, hx1] at md1
  simp only [hs2, hz2, hx2] at md2
  obtain ⟨A, hA⟩ : ∃ y, flA mode (wsg M) (val (dlm M)).toNat (dex M X) = y := ⟨_, rfl⟩
  obtain ⟨GG, hGG⟩ : ∃ y, flG mode (wsg M) (val (dlm M)).toNat (dex M X) = y := ⟨_, rfl⟩
  obtain ⟨SG, hSG⟩ : ∃ y, (if (val (dlm M)).toNat = 0 then MD else wsg M) = y := ⟨_, rfl⟩
  rw [hA, hGG, hSG] at jj
  have FQ : Hid (Q = ((A.1, SG, A.2.1, A.2.2), GG)) := jj.symm
  have HA := hide hA
  have HGG := hide hGG
  have HJ := hide hSG
  have HM := hide hM
  have HX := hide hX
  replace md1 := hide md1
  replace md2 := hide md2
  clear hs1 hs2 hz1 hz2 hx1 hx2 hA hGG hSG jj hq hM hX hMb ab1 ab2 hAA hfn
  have n_qf0 := qf0
  have n_q0 := q0
  have n_qf1 := qf1
  have n_q1 := q1
  have n_qf2 := qf2
  have n_q2 := q2
  have n_qf3 := qf3
  have n_q3 := q3
  have kd := (Kept.refl 0 0 W).drew
  replace qf0 := kd.loose0 (zbl q0) qf0
  replace qf1 := kd.loose0 (zbl q1) qf1
  replace qf2 := kd.loose0 (zbl q2) qf2
  replace qf3 := kd.loose0 (zbl q3) qf3
  replace p0 := kd.cell0 p0
  replace p1 := kd.cell0 p1
  replace p2 := kd.cell0 p2
  replace p3 := kd.cell0 p3
  replace t0 := kd.cell0 t0
  replace t1 := kd.cell0 t1
  replace t2 := kd.cell0 t2
  replace t3 := kd.cell0 t3
  replace q0 := kd.cell0 q0
  replace q1 := kd.cell0 q1
  replace q2 := kd.cell0 q2
  replace q3 := kd.cell0 q3
  replace K := hide ((unhide K).trans kd)
  have z1 := kd.size
  clear kd
  refine wp_region_held_drew (S := (fun w' => w'.cell? ⟨w.heap.size, 0, none⟩ = some (.int .i64 0) ∧ w'.cell? ⟨w.heap.size, 1, none⟩ = some (.bool false) ∧ w'.cell? ⟨w.heap.size, 2, none⟩ = some (.int .i64 0) ∧ w'.cell? ⟨w.heap.size, 3, none⟩ = some (.int .i64 0) ∧ w'.cell? ⟨w.heap.size + 1, 0, none⟩ = some (.int .i64 0) ∧ w'.cell? ⟨w.heap.size + 1, 1, none⟩ = some (.bool true) ∧ w'.cell? ⟨w.heap.size + 1, 2, none⟩ = some (.int .i64 0) ∧ w'.cell? ⟨w.heap.size + 1, 3, none⟩ = some (.int .i64 0))) (by kernel_rfl) ?_ (fun hH => ?_)
  ·exact ⟨p0, p1, p2, p3, t0, t1, t2, t3⟩
  refine wpAnyH_take (i := 0) (v := .agg #[.int .i64 0, .bool false, .int .i64 0, .int .i64 0]) rfl (by kernel_rfl) (by kernel_rfl) (by kernel_rfl) (fun _ _ _ h => h) (Or.inl ⟨by rfl, ?_⟩) hH ?_
  ·intro wq hSw
   try dsimp only at hSw
   go_simp
  try simp only [Act.put, zq1, zq2, zq3, zq4, zq5, zq6]
  refine wpAnyH_take (i := 2) (v := .agg #[.int .i64 0, .bool true, .int .i64 0, .int .i64 0]) rfl (by kernel_rfl) (by kernel_rfl) (by kernel_rfl) (fun _ _ _ h => h) (Or.inl ⟨by rfl, ?_⟩) hH ?_
  ·intro wq hSw
   try dsimp only at hSw
   go_simp
  try simp only [Act.put, zq1, zq2, zq3, zq4, zq5, zq6]
  refine wpAnyH_take (i := 5) (v := .int .i64 mode) rfl (by kernel_rfl) (by kernel_rfl) (by kernel_rfl) (fun _ _ _ h => h) (Or.inl ⟨by rfl, ?_⟩) hH ?_
  ·intro wq hSw
   try dsimp only at hSw
   go_simp
  try simp only [Act.put, zq1, zq2, zq3, zq4, zq5, zq6]
  refine wpAnyH_take (i := 6) (v := .bool MD) rfl (by kernel_rfl) (by kernel_rfl) (by kernel_rfl) (fun _ _ _ h => h) (Or.inl ⟨by rfl, ?_⟩) hH ?_
  ·intro wq hSw
   try dsimp only at hSw
   go_simp
  try simp only [Act.put, zq1, zq2, zq3, zq4, zq5, zq6]
  refine wpAnyH_ready (rs := [1]) (by kernel_rfl) (by simp) ?_
  refine AllReadyH.cons rfl (fun KK hK => ?_) AllReadyH.nil
  simp only [zq1, zq2, zq3]
  rw [if_pos (by rfl)]
  refine wps1 26 (.tmp 67) _ rfl in_l5dy_m (.agg #[.int .i64 0, .bool false, .int .i64 0, .int .i64 0]) rfl (unhide md1 _) ?_
  rintro e w2 ⟨v1, rfl, r1, k2⟩
  refine ⟨_, rfl, ?_⟩
  replace qf0 := k2.loose0 (zbl q0) qf0
  replace qf1 := k2.loose0 (zbl q1) qf1
  replace qf2 := k2.loose0 (zbl q2) qf2
  replace qf3 := k2.loose0 (zbl q3) qf3
  replace p0 := k2.cell0 p0
  replace p1 := k2.cell0 p1
  replace p2 := k2.cell0 p2
  replace p3 := k2.cell0 p3
  replace t0 := k2.cell0 t0
  replace t1 := k2.cell0 t1
  replace t2 := k2.cell0 t2
  replace t3 := k2.cell0 t3
  replace q0 := k2.cell0 q0
  replace q1 := k2.cell0 q1
  replace q2 := k2.cell0 q2
  replace q3 := k2.cell0 q3
  replace K := hide ((unhide K).trans k2)
  have z3 := k2.size
  clear k2
  clear hH
  refine hK.out _ _ ?_ (fun hH => ?_)
  ·exact ⟨p0, p1, p2, p3, t0, t1, t2, t3⟩
  clear hK KK
  try simp only [Act.put, zq1, zq2, zq3, zq4, zq5, zq6]
  refine wpAnyH_ready (rs := [3]) (by kernel_rfl) (by simp) ?_
  refine AllReadyH.cons rfl (fun KK hK => ?_) AllReadyH.nil
  simp only [zq1, zq2, zq3]
  rw [if_pos (by rfl)]
  refine wps1 26 (.tmp 69) _ rfl in_l5dy_m (.agg #[.int .i64 0, .bool true, .int .i64 0, .int .i64 0]) rfl (unhide md2 _) ?_
  rintro e w4 ⟨v2, rfl, r2, k4⟩
  refine ⟨_, rfl, ?_⟩
  replace r1 := r1.kp k4
  replace qf0 := k4.loose0 (zbl q0) qf0
  replace qf1 := k4.loose0 (zbl q1) qf1
  replace qf2 := k4.loose0 (zbl q2) qf2
  replace qf3 := k4.loose0 (zbl q3) qf3
  replace p0 := k4.cell0 p0
  replace p1 := k4.cell0 p1
  replace p2 := k4.cell0 p2
  replace p3 := k4.cell0 p3
  replace t0 := k4.cell0 t0
  replace t1 := k4.cell0 t1
  replace t2 := k4.cell0 t2
  replace t3 := k4.cell0 t3
  replace q0 := k4.cell0 q0
  replace q1 := k4.cell0 q1
  replace q2 := k4.cell0 q2
  replace q3 := k4.cell0 q3
  replace K := hide ((unhide K).trans k4)
  have z5 := k4.size
  clear k4
  clear hH
  refine hK.out _ _ ?_ (fun hH => ?_)
  ·exact ⟨p0, p1, p2, p3, t0, t1, t2, t3⟩
  clear hK KK
  try simp only [Act.put, zq1, zq2, zq3, zq4, zq5, zq6]
  refine wpAnyH_ready (rs := [4]) (by kernel_rfl) (by simp) ?_
  refine AllReadyH.cons rfl (fun KK hK => ?_) AllReadyH.nil
  simp only [zq1, zq2, zq3]
  rw [if_pos (by rfl)]
  refine wps2 25 (.tmp 68) (.tmp 70) _ rfl in_l4add_m (.agg #[.bool s1, v1, .int .i64 x1]) (.agg #[.bool s2, v2, .int .i64 x2]) rfl rfl (add4_spec s1 s2 x1 x2 _ r1 r2 ok1 ok2) ?_
  rintro e w6 ⟨v3, rfl, r3, k6⟩
  refine ⟨_, rfl, ?_⟩
  replace r1 := r1.kp k6
  replace r2 := r2.kp k6
  replace qf0 := k6.loose0 (zbl q0) qf0
  replace qf1 := k6.loose0 (zbl q1) qf1
  replace qf2 := k6.loose0 (zbl q2) qf2
  replace qf3 := k6.loose0 (zbl q3) qf3
  replace p0 := k6.cell0 p0
  replace p1 := k6.cell0 p1
  replace p2 := k6.cell0 p2
  replace p3 := k6.cell0 p3
  replace t0 := k6.cell0 t0
  replace t1 := k6.cell0 t1
  replace t2 := k6.cell0 t2
  replace t3 := k6.cell0 t3
  replace q0 := k6.cell0 q0
  replace q1 := k6.cell0 q1
  replace q2 := k6.cell0 q2
  replace q3 := k6.cell0 q3
  replace K := hide ((unhide K).trans k6)
  have z7 := k6.size
  clear k6
  clear hH
  refine hK.out _ _ ?_ (fun hH => ?_)
  ·exact ⟨p0, p1, p2, p3, t0, t1, t2, t3⟩
  clear hK KK
  try simp only [Act.put, zq1, zq2, zq3, zq4, zq5, zq6]
  rw [unhide HM] at r3
  rw [unhide HM, unhide HX]
  refine wpAnyH_ready (rs := [7]) (by kernel_rfl) (by simp) ?_
  refine AllReadyH.cons rfl (fun KK hK => ?_) AllReadyH.nil
  simp only [zq1, zq2, zq3]
  rw [if_pos (by rfl)]
  refine wps3 24 (.tmp 71) (.tmp 72) (.tmp 73) _ rfl in_l5round_m (.agg #[.bool (wsg M), v3, .int .i64 (dex M X)]) (.int .i64 mode) (.bool MD) rfl rfl rfl (l5round_spec (wsg M) (dex M X) (by omega) (by omega) _ r3 (wn_dlm M) (odd_dlm M) (dex_nil M X) (by omega) mode hm0 hm4 MD) ?_
  rintro e w8 ⟨rfl, k8⟩
  refine ⟨_, rfl, ?_⟩
  replace r1 := r1.kp k8
  replace r2 := r2.kp k8
  replace r3 := r3.kp k8
  replace qf0 := k8.loose0 (zbl q0) qf0
  replace qf1 := k8.loose0 (zbl q1) qf1
  replace qf2 := k8.loose0 (zbl q2) qf2
  replace qf3 := k8.loose0 (zbl q3) qf3
  replace p0 := k8.cell0 p0
  replace p1 := k8.cell0 p1
  replace p2 := k8.cell0 p2
  replace p3 := k8.cell0 p3
  replace t0 := k8.cell0 t0
  replace t1 := k8.cell0 t1
  replace t2 := k8.cell0 t2
  replace t3 := k8.cell0 t3
  replace q0 := k8.cell0 q0
  replace q1 := k8.cell0 q1
  replace q2 := k8.cell0 q2
  replace q3 := k8.cell0 q3
  replace K := hide ((unhide K).trans k8)
  have z9 := k8.size
  clear k8
  clear hH
  refine hK.out _ _ ?_ (fun hH => ?_)
  ·exact ⟨p0, p1, p2, p3, t0, t1, t2, t3⟩
  clear hK KK
  try simp only [Act.put, zq1, zq2, zq3, zq4, zq5, zq6]
  rw [unhide HA, unhide HGG, unhide HJ]
  refine wpAnyH_take (i := 8) (v := .agg #[.int .i64 A.1, .bool SG, .int .i64 A.2.1, .int .i64 A.2.2]) rfl (by kernel_rfl) (by kernel_rfl) (by kernel_rfl) (fun _ _ _ h => h) (Or.inl ⟨by rfl, ?_⟩) hH ?_
  ·intro wq hSw
   try dsimp only at hSw
   go_simp
  try simp only [Act.put, zq1, zq2, zq3, zq4, zq5, zq6]
  refine wpAnyH_take (i := 9) (v := .int .i64 GG) rfl (by kernel_rfl) (by kernel_rfl) (by kernel_rfl) (fun _ _ _ h => h) (Or.inl ⟨by rfl, ?_⟩) hH ?_
  ·intro wq hSw
   try dsimp only at hSw
   go_simp
  try simp only [Act.put, zq1, zq2, zq3, zq4, zq5, zq6]
  refine wpAnyH_ready (rs := [10]) (by kernel_rfl) (by simp) ?_
  refine AllReadyH.cons rfl (fun KK hK => ?_) AllReadyH.nil
  simp only [zq1, zq2, zq3]
  rw [if_pos (by rfl)]
  go_simp
  clear hH
  refine hK.out _ _ ?_ (fun hH => ?_)
  ·exact ⟨(cell_aside _ (by have := unhide S0; dsimp only; omega) (cw3 (by have := unhide S0; dsimp only; omega) p0)), (cell_aside _ (by have := unhide S0; dsimp only; omega) (cw3 (by have := unhide S0; dsimp only; omega) p1)), (cell_aside _ (by have := unhide S0; dsimp only; omega) (cw3 (by have := unhide S0; dsimp only; omega) p2)), (cell_aside _ (by have := unhide S0; dsimp only; omega) (cw3 (by have := unhide S0; dsimp only; omega) p3)), (cell_aside _ (by have := unhide S0; dsimp only; omega) (cw3 (by have := unhide S0; dsimp only; omega) t0)), (cell_aside _ (by have := unhide S0; dsimp only; omega) (cw3 (by have := unhide S0; dsimp only; omega) t1)), (cell_aside _ (by have := unhide S0; dsimp only; omega) (cw3 (by have := unhide S0; dsimp only; omega) t2)), (cell_aside _ (by have := unhide S0; dsimp only; omega) (cw3 (by have := unhide S0; dsimp only; omega) t3))⟩
  clear hK KK
  try simp only [Act.put, zq1, zq2, zq3, zq4, zq5, zq6]
  refine wpAnyH_take (i := 11) (v := .int .i64 GG) rfl (by kernel_rfl) (by kernel_rfl) (by kernel_rfl) (fun _ _ _ h => h) (Or.inl ⟨by rfl, ?_⟩) hH ?_
  ·intro wq hSw
   try dsimp only at hSw
   go_simp
  try simp only [Act.put, zq1, zq2, zq3, zq4, zq5, zq6]
  refine wpAnyH_done (by kernel_rfl) ?_ _
  clear hH
  have KF := hide (((((unhide K).setNew (p := ⟨w.heap.size + 2, 0, none⟩) (by simp) (.int .i64 A.1)).setNew (p := ⟨w.heap.size + 2, 1, none⟩) (by simp) (.bool SG)).setNew (p := ⟨w.heap.size + 2, 2, none⟩) (by simp) (.int .i64 A.2.1)).setNew (p := ⟨w.heap.size + 2, 3, none⟩) (by simp) (.int .i64 A.2.2))
  clear r1 r2 r3 K
  try go_wp2_with fail
  exact bodyPost_ret (v := .tuple #[.agg #[.int .i64 A.1, .bool SG, .int .i64 A.2.1, .int .i64 A.2.2], .int .i64 GG]) (by simp [results, Tryd.results13, go_sem, q0, q1, q2, q3]) rfl ⟨by rw [unhide FQ], unhide KF⟩

set_option maxHeartbeats 2000000 in
theorem addS_nought_nought_false_false (mode : Int) (hm0 : 0 ≤ mode) (hm4 : mode ≤ 4) (w : World) :
    Calls Tryd.prog 13 #[flv 0 false 0 0, flv 0 false 0 0, .int .i64 mode] w fun e' w' => e' = .returned (.tuple #[flq (addQ 0 false 0 0 0 false 0 0 mode).1, .int .i64 (addQ 0 false 0 0 0 false 0 0 mode).2]) ∧ Kept 0 0 w w' := by
  obtain ⟨Q, hQ⟩ : ∃ q, addQ 0 false 0 0 0 false 0 0 mode = q := ⟨_, rfl⟩
  rw [hQ]
  have HQ := hide hQ
  clear hQ
  obtain ⟨Wn, hn0⟩ : ∃ wz, wz = (((w.alloc (.cells #[.int .i64 0, .bool false, .int .i64 0, .int .i64 0] 24)).alloc (.cells #[.int .i64 0, .bool false, .int .i64 0, .int .i64 0] 24)).alloc (.cells #[.int .i64 0, .bool false, .int .i64 0, .int .i64 0] 24)) := ⟨_, rfl⟩
  have k0 : Kept 0 0 w Wn := by rw [hn0]; exact ((((Kept.refl 0 0 w).alloc _).alloc _).alloc _)
  have p0 : Wn.cell? ⟨w.heap.size, 0, none⟩ = some (.int .i64 0) := by rw [hn0]; exact old_cell _ (old_cell _ (new_cell2 _ _ _ _ _ _ (by simp) rfl))
  have p1 : Wn.cell? ⟨w.heap.size, 1, none⟩ = some (.bool false) := by rw [hn0]; exact old_cell _ (old_cell _ (new_cell2 _ _ _ _ _ _ (by simp) rfl))
  have p2 : Wn.cell? ⟨w.heap.size, 2, none⟩ = some (.int .i64 0) := by rw [hn0]; exact old_cell _ (old_cell _ (new_cell2 _ _ _ _ _ _ (by simp) rfl))
  have p3 : Wn.cell? ⟨w.heap.size, 3, none⟩ = some (.int .i64 0) := by rw [hn0]; exact old_cell _ (old_cell _ (new_cell2 _ _ _ _ _ _ (by simp) rfl))
  have t0 : Wn.cell? ⟨w.heap.size + 1, 0, none⟩ = some (.int .i64 0) := by rw [hn0]; exact old_cell _ (new_cell2 _ _ _ _ _ _ (by simp) rfl)
  have t1 : Wn.cell? ⟨w.heap.size + 1, 1, none⟩ = some (.bool false) := by rw [hn0]; exact old_cell _ (new_cell2 _ _ _ _ _ _ (by simp) rfl)
  have t2 : Wn.cell? ⟨w.heap.size + 1, 2, none⟩ = some (.int .i64 0) := by rw [hn0]; exact old_cell _ (new_cell2 _ _ _ _ _ _ (by simp) rfl)
  have t3 : Wn.cell? ⟨w.heap.size + 1, 3, none⟩ = some (.int .i64 0) := by rw [hn0]; exact old_cell _ (new_cell2 _ _ _ _ _ _ (by simp) rfl)
  have q0 : Wn.cell? ⟨w.heap.size + 2, 0, none⟩ = some (.int .i64 0) := by rw [hn0]; exact new_cell2 _ _ _ _ _ _ (by simp) rfl
  have qf0 : Wn.frozen? ⟨w.heap.size + 2, 0, none⟩ = false := by rw [hn0]; exact new_loose2 _ _ _ _ _ (by simp)
  have q1 : Wn.cell? ⟨w.heap.size + 2, 1, none⟩ = some (.bool false) := by rw [hn0]; exact new_cell2 _ _ _ _ _ _ (by simp) rfl
  have qf1 : Wn.frozen? ⟨w.heap.size + 2, 1, none⟩ = false := by rw [hn0]; exact new_loose2 _ _ _ _ _ (by simp)
  have q2 : Wn.cell? ⟨w.heap.size + 2, 2, none⟩ = some (.int .i64 0) := by rw [hn0]; exact new_cell2 _ _ _ _ _ _ (by simp) rfl
  have qf2 : Wn.frozen? ⟨w.heap.size + 2, 2, none⟩ = false := by rw [hn0]; exact new_loose2 _ _ _ _ _ (by simp)
  have q3 : Wn.cell? ⟨w.heap.size + 2, 3, none⟩ = some (.int .i64 0) := by rw [hn0]; exact new_cell2 _ _ _ _ _ _ (by simp) rfl
  have qf3 : Wn.frozen? ⟨w.heap.size + 2, 3, none⟩ = false := by rw [hn0]; exact new_loose2 _ _ _ _ _ (by simp)
  have s0 : Wn.heap.size = w.heap.size + 3 := by rw [hn0]; exact by simp
  subst hn0
  have K := hide (k0)
  clear k0
  have S0 := hide s0
  clear s0
  go_enter Tryd.func13, Tryd.ntmps13
  obtain ⟨MD, hMD⟩ : ∃ y, (mode == 3) = y := ⟨_, rfl⟩
  go_wp2_with fail
  generalize (((w.alloc (.cells #[.int .i64 0, .bool false, .int .i64 0, .int .i64 0] 24)).alloc (.cells #[.int .i64 0, .bool false, .int .i64 0, .int .i64 0] 24)).alloc (.cells #[.int .i64 0, .bool false, .int .i64 0, .int .i64 0] 24)) = W at *
  have ab1 : (fM 0 false 0).natAbs < 2 ^ 64 := fM_abs _ _ (by omega) (by omega)
  have ab2 : (fM 0 false 0).natAbs < 2 ^ 64 := fM_abs _ _ (by omega) (by omega)
  have ok1 := dok_fl (fM 0 false 0) (0 : Int) ab1 (by omega) (by omega)
  have ok2 := dok_fl (fM 0 false 0) (0 : Int) ab2 (by omega) (by omega)
  have md1 := fun w => dy5_nought false w
  have md2 := fun w => dy5_nought false w
  obtain ⟨s1, hs1⟩ : ∃ y, wsg (fM 0 false 0) = y := ⟨_, rfl⟩
  obtain ⟨s2, hs2⟩ : ∃ y, wsg (fM 0 false 0) = y := ⟨_, rfl⟩
  obtain ⟨z1, hz1⟩ : ∃ y, dlm (fM 0 false 0) = y := ⟨_, rfl⟩
  obtain ⟨z2, hz2⟩ : ∃ y, dlm (fM 0 false 0) = y := ⟨_, rfl⟩
  obtain ⟨x1, hx1⟩ : ∃ y, dex (fM 0 false 0) (0 : Int) = y := ⟨_, rfl⟩
  obtain ⟨x2, hx2⟩ : ∃ y, dex (fM 0 false 0) (0 : Int) = y := ⟨_, rfl⟩
  obtain ⟨M, hM⟩ : ∃ y, wval s1 z1 * 2 ^ (x1 - min x1 x2).toNat + wval s2 z2 * 2 ^ (x2 - min x1 x2).toNat = y := ⟨_, rfl⟩
  obtain ⟨X, hX⟩ : ∃ y, min x1 x2 = y := ⟨_, rfl⟩
  have hfn : ∀ (n : Bool) {m : Int}, 1 ≤ m → (fM 1 n m).natAbs = m.toNat := fun n m h => by unfold fM; cases n <;> simp <;> omega
  have jj := add_fin mode false (fM 0 false 0) (fM 0 false 0) (0 : Int) (0 : Int) M X _ _ (fun h => rfl) (fun h => rfl) (.inr trivial) (by rw [← hM, ← hs1, ← hs2, ← hz1, ← hz2, ← hx1, ← hx2]) (by rw [← hX, ← hx1, ← hx2]) rfl rfl
  have hq : rndQ mode (fM 0 false 0 * 2 ^ ((0 : Int) - min (0 : Int) (0 : Int)).toNat + fM 0 false 0 * 2 ^ ((0 : Int) - min (0 : Int) (0 : Int)).toNat) (min (0 : Int) (0 : Int)) false = Q := by
   rw [← unhide HQ]
   unfold addQ
   simp
  rw [hq] at jj
  have hxb : -3000 ≤ x1 ∧ x1 ≤ 3000 ∧ -3000 ≤ x2 ∧ x2 ≤ 3000 := by
   have g1 := (dok_parts ok1).2
   have g2 := (dok_parts ok2).2
   rw [hx1] at g1
   rw [hx2] at g2
   omega
  rw [hs1, hz1, hx1] at ok1
  rw [hs2, hz2, hx2] at ok2
  obtain ⟨AA, hAA⟩ : ∃ A : Nat, A = 7600 := ⟨_, rfl⟩
  have hMb : M.natAbs < 2 ^ (AA + 1) := by
   have g1 := wok_int (dok_parts ok1).1
   have g2 := wok_int (dok_parts ok2).1
   rw [← hM]
   exact add_lt (al_lt g1.2.2.2.1 g1.2.2.1 _ (by omega) hAA) (al_lt g2.2.2.2.1 g2.2.2.1 _ (by omega) hAA)
  have hdM : -20000 ≤ dex M X ∧ dex M X ≤ 20000 := by
   unfold dex
   split
   ·omega
   ·rename_i hne
    have := tz_lt (n := M.natAbs) (by omega) hMb
    omega
  have hlM : (dlm M).length ≤ 500 := Nat.le_trans (dlm_len (M := M) rfl) (wlm_len hMb (by omega))
  simp only [hs1, hz1, hx1] at md1
  simp only [hs2, hz2, hx2] at md2
  obtain ⟨A, hA⟩ : ∃ y, flA mode (wsg M) (val (dlm M)).toNat (dex M X) = y := ⟨_, rfl⟩
  obtain ⟨GG, hGG⟩ : ∃ y, flG mode (wsg M) (val (dlm M)).toNat (dex M X) = y := ⟨_, rfl⟩
  obtain ⟨SG, hSG⟩ : ∃ y, (if (val (dlm M)).toNat = 0 then false else wsg M) = y := ⟨_, rfl⟩
  rw [hA, hGG, hSG] at jj
  have FQ : Hid (Q = ((A.1, SG, A.2.1, A.2.2), GG)) := jj.symm
  have HA := hide hA
  have HGG := hide hGG
  have HJ := hide hSG
  have HM := hide hM
  have HX := hide hX
  replace md1 := hide md1
  replace md2 := hide md2
  clear hs1 hs2 hz1 hz2 hx1 hx2 hA hGG hSG jj hq hM hX hMb ab1 ab2 hAA hfn
  have n_qf0 := qf0
  have n_q0 := q0
  have n_qf1 := qf1
  have n_q1 := q1
  have n_qf2 := qf2
  have n_q2 := q2
  have n_qf3 := qf3
  have n_q3 := q3
  have kd := (Kept.refl 0 0 W).drew
  replace qf0 := kd.loose0 (zbl q0) qf0
  replace qf1 := kd.loose0 (zbl q1) qf1
  replace qf2 := kd.loose0 (zbl q2) qf2
  replace qf3 := kd.loose0 (zbl q3) qf3
  replace p0 := kd.cell0 p0
  replace p1 := kd.cell0 p1
  replace p2 := kd.cell0 p2
  replace p3 := kd.cell0 p3
  replace t0 := kd.cell0 t0
  replace t1 := kd.cell0 t1
  replace t2 := kd.cell0 t2
  replace t3 := kd.cell0 t3
  replace q0 := kd.cell0 q0
  replace q1 := kd.cell0 q1
  replace q2 := kd.cell0 q2
  replace q3 := kd.cell0 q3
  replace K := hide ((unhide K).trans kd)
  have z1 := kd.size
  clear kd
  refine wp_region_held_drew (S := (fun w' => w'.cell? ⟨w.heap.size, 0, none⟩ = some (.int .i64 0) ∧ w'.cell? ⟨w.heap.size, 1, none⟩ = some (.bool false) ∧ w'.cell? ⟨w.heap.size, 2, none⟩ = some (.int .i64 0) ∧ w'.cell? ⟨w.heap.size, 3, none⟩ = some (.int .i64 0) ∧ w'.cell? ⟨w.heap.size + 1, 0, none⟩ = some (.int .i64 0) ∧ w'.cell? ⟨w.heap.size + 1, 1, none⟩ = some (.bool false) ∧ w'.cell? ⟨w.heap.size + 1, 2, none⟩ = some (.int .i64 0) ∧ w'.cell? ⟨w.heap.size + 1, 3, none⟩ = some (.int .i64 0))) (by kernel_rfl) ?_ (fun hH => ?_)
  ·exact ⟨p0, p1, p2, p3, t0, t1, t2, t3⟩
  refine wpAnyH_take (i := 0) (v := .agg #[.int .i64 0, .bool false, .int .i64 0, .int .i64 0]) rfl (by kernel_rfl) (by kernel_rfl) (by kernel_rfl) (fun _ _ _ h => h) (Or.inl ⟨by rfl, ?_⟩) hH ?_
  ·intro wq hSw
   try dsimp only at hSw
   go_simp
  try simp only [Act.put, zq1, zq2, zq3, zq4, zq5, zq6]
  refine wpAnyH_take (i := 2) (v := .agg #[.int .i64 0, .bool false, .int .i64 0, .int .i64 0]) rfl (by kernel_rfl) (by kernel_rfl) (by kernel_rfl) (fun _ _ _ h => h) (Or.inl ⟨by rfl, ?_⟩) hH ?_
  ·intro wq hSw
   try dsimp only at hSw
   go_simp
  try simp only [Act.put, zq1, zq2, zq3, zq4, zq5, zq6]
  refine wpAnyH_take (i := 5) (v := .int .i64 mode) rfl (by kernel_rfl) (by kernel_rfl) (by kernel_rfl) (fun _ _ _ h => h) (Or.inl ⟨by rfl, ?_⟩) hH ?_
  ·intro wq hSw
   try dsimp only at hSw
   go_simp
  try simp only [Act.put, zq1, zq2, zq3, zq4, zq5, zq6]
  refine wpAnyH_take (i := 6) (v := .bool false) rfl (by kernel_rfl) (by kernel_rfl) (by kernel_rfl) (fun _ _ _ h => h) (Or.inl ⟨by rfl, ?_⟩) hH ?_
  ·intro wq hSw
   try dsimp only at hSw
   go_simp
  try simp only [Act.put, zq1, zq2, zq3, zq4, zq5, zq6]
  refine wpAnyH_ready (rs := [1]) (by kernel_rfl) (by simp) ?_
  refine AllReadyH.cons rfl (fun KK hK => ?_) AllReadyH.nil
  simp only [zq1, zq2, zq3]
  rw [if_pos (by rfl)]
  refine wps1 26 (.tmp 67) _ rfl in_l5dy_m (.agg #[.int .i64 0, .bool false, .int .i64 0, .int .i64 0]) rfl (unhide md1 _) ?_
  rintro e w2 ⟨v1, rfl, r1, k2⟩
  refine ⟨_, rfl, ?_⟩
  replace qf0 := k2.loose0 (zbl q0) qf0
  replace qf1 := k2.loose0 (zbl q1) qf1
  replace qf2 := k2.loose0 (zbl q2) qf2
  replace qf3 := k2.loose0 (zbl q3) qf3
  replace p0 := k2.cell0 p0
  replace p1 := k2.cell0 p1
  replace p2 := k2.cell0 p2
  replace p3 := k2.cell0 p3
  replace t0 := k2.cell0 t0
  replace t1 := k2.cell0 t1
  replace t2 := k2.cell0 t2
  replace t3 := k2.cell0 t3
  replace q0 := k2.cell0 q0
  replace q1 := k2.cell0 q1
  replace q2 := k2.cell0 q2
  replace q3 := k2.cell0 q3
  replace K := hide ((unhide K).trans k2)
  have z3 := k2.size
  clear k2
  clear hH
  refine hK.out _ _ ?_ (fun hH => ?_)
  ·exact ⟨p0, p1, p2, p3, t0, t1, t2, t3⟩
  clear hK KK
  try simp only [Act.put, zq1, zq2, zq3, zq4, zq5, zq6]
  refine wpAnyH_ready (rs := [3]) (by kernel_rfl) (by simp) ?_
  refine AllReadyH.cons rfl (fun KK hK => ?_) AllReadyH.nil
  simp only [zq1, zq2, zq3]
  rw [if_pos (by rfl)]
  refine wps1 26 (.tmp 69) _ rfl in_l5dy_m (.agg #[.int .i64 0, .bool false, .int .i64 0, .int .i64 0]) rfl (unhide md2 _) ?_
  rintro e w4 ⟨v2, rfl, r2, k4⟩
  refine ⟨_, rfl, ?_⟩
  replace r1 := r1.kp k4
  replace qf0 := k4.loose0 (zbl q0) qf0
  replace qf1 := k4.loose0 (zbl q1) qf1
  replace qf2 := k4.loose0 (zbl q2) qf2
  replace qf3 := k4.loose0 (zbl q3) qf3
  replace p0 := k4.cell0 p0
  replace p1 := k4.cell0 p1
  replace p2 := k4.cell0 p2
  replace p3 := k4.cell0 p3
  replace t0 := k4.cell0 t0
  replace t1 := k4.cell0 t1
  replace t2 := k4.cell0 t2
  replace t3 := k4.cell0 t3
  replace q0 := k4.cell0 q0
  replace q1 := k4.cell0 q1
  replace q2 := k4.cell0 q2
  replace q3 := k4.cell0 q3
  replace K := hide ((unhide K).trans k4)
  have z5 := k4.size
  clear k4
  clear hH
  refine hK.out _ _ ?_ (fun hH => ?_)
  ·exact ⟨p0, p1, p2, p3, t0, t1, t2, t3⟩
  clear hK KK
  try simp only [Act.put, zq1, zq2, zq3, zq4, zq5, zq6]
  refine wpAnyH_ready (rs := [4]) (by kernel_rfl) (by simp) ?_
  refine AllReadyH.cons rfl (fun KK hK => ?_) AllReadyH.nil
  simp only [zq1, zq2, zq3]
  rw [if_pos (by rfl)]
  refine wps2 25 (.tmp 68) (.tmp 70) _ rfl in_l4add_m (.agg #[.bool s1, v1, .int .i64 x1]) (.agg #[.bool s2, v2, .int .i64 x2]) rfl rfl (add4_spec s1 s2 x1 x2 _ r1 r2 ok1 ok2) ?_
  rintro e w6 ⟨v3, rfl, r3, k6⟩
  refine ⟨_, rfl, ?_⟩
  replace r1 := r1.kp k6
  replace r2 := r2.kp k6
  replace qf0 := k6.loose0 (zbl q0) qf0
  replace qf1 := k6.loose0 (zbl q1) qf1
  replace qf2 := k6.loose0 (zbl q2) qf2
  replace qf3 := k6.loose0 (zbl q3) qf3
  replace p0 := k6.cell0 p0
  replace p1 := k6.cell0 p1
  replace p2 := k6.cell0 p2
  replace p3 := k6.cell0 p3
  replace t0 := k6.cell0 t0
  replace t1 := k6.cell0 t1
  replace t2 := k6.cell0 t2
  replace t3 := k6.cell0 t3
  replace q0 := k6.cell0 q0
  replace q1 := k6.cell0 q1
  replace q2 := k6.cell0 q2
  replace q3 := k6.cell0 q3
  replace K := hide ((unhide K).trans k6)
  have z7 := k6.size
  clear k6
  clear hH
  refine hK.out _ _ ?_ (fun hH => ?_)
  ·exact ⟨p0, p1, p2, p3, t0, t1, t2, t3⟩
  clear hK KK
  try simp only [Act.put, zq1, zq2, zq3, zq4, zq5, zq6]
  rw [unhide HM] at r3
  rw [unhide HM, unhide HX]
  refine wpAnyH_ready (rs := [7]) (by kernel_rfl) (by simp) ?_
  refine AllReadyH.cons rfl (fun KK hK => ?_) AllReadyH.nil
  simp only [zq1, zq2, zq3]
  rw [if_pos (by rfl)]
  refine wps3 24 (.tmp 71) (.tmp 72) (.tmp 73) _ rfl in_l5round_m (.agg #[.bool (wsg M), v3, .int .i64 (dex M X)]) (.int .i64 mode) (.bool false) rfl rfl rfl (l5round_spec (wsg M) (dex M X) (by omega) (by omega) _ r3 (wn_dlm M) (odd_dlm M) (dex_nil M X) (by omega) mode hm0 hm4 false) ?_
  rintro e w8 ⟨rfl, k8⟩
  refine ⟨_, rfl, ?_⟩
  replace r1 := r1.kp k8
  replace r2 := r2.kp k8
  replace r3 := r3.kp k8
  replace qf0 := k8.loose0 (zbl q0) qf0
  replace qf1 := k8.loose0 (zbl q1) qf1
  replace qf2 := k8.loose0 (zbl q2) qf2
  replace qf3 := k8.loose0 (zbl q3) qf3
  replace p0 := k8.cell0 p0
  replace p1 := k8.cell0 p1
  replace p2 := k8.cell0 p2
  replace p3 := k8.cell0 p3
  replace t0 := k8.cell0 t0
  replace t1 := k8.cell0 t1
  replace t2 := k8.cell0 t2
  replace t3 := k8.cell0 t3
  replace q0 := k8.cell0 q0
  replace q1 := k8.cell0 q1
  replace q2 := k8.cell0 q2
  replace q3 := k8.cell0 q3
  replace K := hide ((unhide K).trans k8)
  have z9 := k8.size
  clear k8
  clear hH
  refine hK.out _ _ ?_ (fun hH => ?_)
  ·exact ⟨p0, p1, p2, p3, t0, t1, t2, t3⟩
  clear hK KK
  try simp only [Act.put, zq1, zq2, zq3, zq4, zq5, zq6]
  rw [unhide HA, unhide HGG, unhide HJ]
  refine wpAnyH_take (i := 8) (v := .agg #[.int .i64 A.1, .bool SG, .int .i64 A.2.1, .int .i64 A.2.2]) rfl (by kernel_rfl) (by kernel_rfl) (by kernel_rfl) (fun _ _ _ h => h) (Or.inl ⟨by rfl, ?_⟩) hH ?_
  ·intro wq hSw
   try dsimp only at hSw
   go_simp
  try simp only [Act.put, zq1, zq2, zq3, zq4, zq5, zq6]
  refine wpAnyH_take (i := 9) (v := .int .i64 GG) rfl (by kernel_rfl) (by kernel_rfl) (by kernel_rfl) (fun _ _ _ h => h) (Or.inl ⟨by rfl, ?_⟩) hH ?_
  ·intro wq hSw
   try dsimp only at hSw
   go_simp
  try simp only [Act.put, zq1, zq2, zq3, zq4, zq5, zq6]
  refine wpAnyH_ready (rs := [10]) (by kernel_rfl) (by simp) ?_
  refine AllReadyH.cons rfl (fun KK hK => ?_) AllReadyH.nil
  simp only [zq1, zq2, zq3]
  rw [if_pos (by rfl)]
  go_simp
  clear hH
  refine hK.out _ _ ?_ (fun hH => ?_)
  ·exact ⟨(cell_aside _ (by have := unhide S0; dsimp only; omega) (cw3 (by have := unhide S0; dsimp only; omega) p0)), (cell_aside _ (by have := unhide S0; dsimp only; omega) (cw3 (by have := unhide S0; dsimp only; omega) p1)), (cell_aside _ (by have := unhide S0; dsimp only; omega) (cw3 (by have := unhide S0; dsimp only; omega) p2)), (cell_aside _ (by have := unhide S0; dsimp only; omega) (cw3 (by have := unhide S0; dsimp only; omega) p3)), (cell_aside _ (by have := unhide S0; dsimp only; omega) (cw3 (by have := unhide S0; dsimp only; omega) t0)), (cell_aside _ (by have := unhide S0; dsimp only; omega) (cw3 (by have := unhide S0; dsimp only; omega) t1)), (cell_aside _ (by have := unhide S0; dsimp only; omega) (cw3 (by have := unhide S0; dsimp only; omega) t2)), (cell_aside _ (by have := unhide S0; dsimp only; omega) (cw3 (by have := unhide S0; dsimp only; omega) t3))⟩
  clear hK KK
  try simp only [Act.put, zq1, zq2, zq3, zq4, zq5, zq6]
  refine wpAnyH_take (i := 11) (v := .int .i64 GG) rfl (by kernel_rfl) (by kernel_rfl) (by kernel_rfl) (fun _ _ _ h => h) (Or.inl ⟨by rfl, ?_⟩) hH ?_
  ·intro wq hSw
   try dsimp only at hSw
   go_simp
  try simp only [Act.put, zq1, zq2, zq3, zq4, zq5, zq6]
  refine wpAnyH_done (by kernel_rfl) ?_ _
  clear hH
  have KF := hide (((((unhide K).setNew (p := ⟨w.heap.size + 2, 0, none⟩) (by simp) (.int .i64 A.1)).setNew (p := ⟨w.heap.size + 2, 1, none⟩) (by simp) (.bool SG)).setNew (p := ⟨w.heap.size + 2, 2, none⟩) (by simp) (.int .i64 A.2.1)).setNew (p := ⟨w.heap.size + 2, 3, none⟩) (by simp) (.int .i64 A.2.2))
  clear r1 r2 r3 K
  try go_wp2_with fail
  exact bodyPost_ret (v := .tuple #[.agg #[.int .i64 A.1, .bool SG, .int .i64 A.2.1, .int .i64 A.2.2], .int .i64 GG]) (by simp [results, Tryd.results13, go_sem, q0, q1, q2, q3]) rfl ⟨by rw [unhide FQ], unhide KF⟩

set_option maxHeartbeats 2000000 in
theorem addS_nought_inf (n1 : Bool) (n2 : Bool) (mode : Int) (hm0 : 0 ≤ mode) (hm4 : mode ≤ 4) (w : World) :
    Calls Tryd.prog 13 #[flv 0 n1 0 0, flv 2 n2 0 0, .int .i64 mode] w fun e' w' => e' = .returned (.tuple #[flq (addQ 0 n1 0 0 2 n2 0 0 mode).1, .int .i64 (addQ 0 n1 0 0 2 n2 0 0 mode).2]) ∧ Kept 0 0 w w' := by
  obtain ⟨Q, hQ⟩ : ∃ q, addQ 0 n1 0 0 2 n2 0 0 mode = q := ⟨_, rfl⟩
  rw [hQ]
  have HQ := hide hQ
  clear hQ
  have FQ : Hid (Q = ((2, n2, 0, 0), 0)) := by show _ = _; rw [← unhide HQ]; unfold addQ; simp
  obtain ⟨Wn, hn0⟩ : ∃ wz, wz = (((w.alloc (.cells #[.int .i64 0, .bool n1, .int .i64 0, .int .i64 0] 24)).alloc (.cells #[.int .i64 2, .bool n2, .int .i64 0, .int .i64 0] 24)).alloc (.cells #[.int .i64 0, .bool false, .int .i64 0, .int .i64 0] 24)) := ⟨_, rfl⟩
  have k0 : Kept 0 0 w Wn := by rw [hn0]; exact ((((Kept.refl 0 0 w).alloc _).alloc _).alloc _)
  have p0 : Wn.cell? ⟨w.heap.size, 0, none⟩ = some (.int .i64 0) := by rw [hn0]; exact old_cell _ (old_cell _ (new_cell2 _ _ _ _ _ _ (by simp) rfl))
  have p1 : Wn.cell? ⟨w.heap.size, 1, none⟩ = some (.bool n1) := by rw [hn0]; exact old_cell _ (old_cell _ (new_cell2 _ _ _ _ _ _ (by simp) rfl))
  have p2 : Wn.cell? ⟨w.heap.size, 2, none⟩ = some (.int .i64 0) := by rw [hn0]; exact old_cell _ (old_cell _ (new_cell2 _ _ _ _ _ _ (by simp) rfl))
  have p3 : Wn.cell? ⟨w.heap.size, 3, none⟩ = some (.int .i64 0) := by rw [hn0]; exact old_cell _ (old_cell _ (new_cell2 _ _ _ _ _ _ (by simp) rfl))
  have t0 : Wn.cell? ⟨w.heap.size + 1, 0, none⟩ = some (.int .i64 2) := by rw [hn0]; exact old_cell _ (new_cell2 _ _ _ _ _ _ (by simp) rfl)
  have t1 : Wn.cell? ⟨w.heap.size + 1, 1, none⟩ = some (.bool n2) := by rw [hn0]; exact old_cell _ (new_cell2 _ _ _ _ _ _ (by simp) rfl)
  have t2 : Wn.cell? ⟨w.heap.size + 1, 2, none⟩ = some (.int .i64 0) := by rw [hn0]; exact old_cell _ (new_cell2 _ _ _ _ _ _ (by simp) rfl)
  have t3 : Wn.cell? ⟨w.heap.size + 1, 3, none⟩ = some (.int .i64 0) := by rw [hn0]; exact old_cell _ (new_cell2 _ _ _ _ _ _ (by simp) rfl)
  have q0 : Wn.cell? ⟨w.heap.size + 2, 0, none⟩ = some (.int .i64 0) := by rw [hn0]; exact new_cell2 _ _ _ _ _ _ (by simp) rfl
  have qf0 : Wn.frozen? ⟨w.heap.size + 2, 0, none⟩ = false := by rw [hn0]; exact new_loose2 _ _ _ _ _ (by simp)
  have q1 : Wn.cell? ⟨w.heap.size + 2, 1, none⟩ = some (.bool false) := by rw [hn0]; exact new_cell2 _ _ _ _ _ _ (by simp) rfl
  have qf1 : Wn.frozen? ⟨w.heap.size + 2, 1, none⟩ = false := by rw [hn0]; exact new_loose2 _ _ _ _ _ (by simp)
  have q2 : Wn.cell? ⟨w.heap.size + 2, 2, none⟩ = some (.int .i64 0) := by rw [hn0]; exact new_cell2 _ _ _ _ _ _ (by simp) rfl
  have qf2 : Wn.frozen? ⟨w.heap.size + 2, 2, none⟩ = false := by rw [hn0]; exact new_loose2 _ _ _ _ _ (by simp)
  have q3 : Wn.cell? ⟨w.heap.size + 2, 3, none⟩ = some (.int .i64 0) := by rw [hn0]; exact new_cell2 _ _ _ _ _ _ (by simp) rfl
  have qf3 : Wn.frozen? ⟨w.heap.size + 2, 3, none⟩ = false := by rw [hn0]; exact new_loose2 _ _ _ _ _ (by simp)
  have s0 : Wn.heap.size = w.heap.size + 3 := by rw [hn0]; exact by simp
  subst hn0
  have K := hide (k0)
  clear k0
  have S0 := hide s0
  clear s0
  go_enter Tryd.func13, Tryd.ntmps13
  have KF := hide ((((Kept.refl 0 0 w).alloc (.cells #[.int .i64 0, .bool n1, .int .i64 0, .int .i64 0] 24)).alloc (.cells #[.int .i64 2, .bool n2, .int .i64 0, .int .i64 0] 24)).alloc (.cells #[.int .i64 2, .bool n2, .int .i64 0, .int .i64 0] 24))
  clear K
  go_wp2_with fail
  exact bodyPost_ret (v := .tuple #[.agg #[.int .i64 2, .bool n2, .int .i64 0, .int .i64 0], .int .i64 0]) (by simp [results, Tryd.results13, go_sem, q0, q1, q2, q3]) rfl ⟨by rw [unhide FQ], unhide KF⟩

set_option maxHeartbeats 2000000 in
theorem addS_nought_nan (n1 : Bool) (mode : Int) (hm0 : 0 ≤ mode) (hm4 : mode ≤ 4) (w : World) :
    Calls Tryd.prog 13 #[flv 0 n1 0 0, flv 3 false 0 0, .int .i64 mode] w fun e' w' => e' = .returned (.tuple #[flq (addQ 0 n1 0 0 3 false 0 0 mode).1, .int .i64 (addQ 0 n1 0 0 3 false 0 0 mode).2]) ∧ Kept 0 0 w w' := by
  obtain ⟨Q, hQ⟩ : ∃ q, addQ 0 n1 0 0 3 false 0 0 mode = q := ⟨_, rfl⟩
  rw [hQ]
  have HQ := hide hQ
  clear hQ
  have FQ : Hid (Q = ((3, false, 0, 0), 0)) := by show _ = _; rw [← unhide HQ]; unfold addQ; simp
  obtain ⟨Wn, hn0⟩ : ∃ wz, wz = (((w.alloc (.cells #[.int .i64 0, .bool n1, .int .i64 0, .int .i64 0] 24)).alloc (.cells #[.int .i64 3, .bool false, .int .i64 0, .int .i64 0] 24)).alloc (.cells #[.int .i64 0, .bool false, .int .i64 0, .int .i64 0] 24)) := ⟨_, rfl⟩
  have k0 : Kept 0 0 w Wn := by rw [hn0]; exact ((((Kept.refl 0 0 w).alloc _).alloc _).alloc _)
  have p0 : Wn.cell? ⟨w.heap.size, 0, none⟩ = some (.int .i64 0) := by rw [hn0]; exact old_cell _ (old_cell _ (new_cell2 _ _ _ _ _ _ (by simp) rfl))
  have p1 : Wn.cell? ⟨w.heap.size, 1, none⟩ = some (.bool n1) := by rw [hn0]; exact old_cell _ (old_cell _ (new_cell2 _ _ _ _ _ _ (by simp) rfl))
  have p2 : Wn.cell? ⟨w.heap.size, 2, none⟩ = some (.int .i64 0) := by rw [hn0]; exact old_cell _ (old_cell _ (new_cell2 _ _ _ _ _ _ (by simp) rfl))
  have p3 : Wn.cell? ⟨w.heap.size, 3, none⟩ = some (.int .i64 0) := by rw [hn0]; exact old_cell _ (old_cell _ (new_cell2 _ _ _ _ _ _ (by simp) rfl))
  have t0 : Wn.cell? ⟨w.heap.size + 1, 0, none⟩ = some (.int .i64 3) := by rw [hn0]; exact old_cell _ (new_cell2 _ _ _ _ _ _ (by simp) rfl)
  have t1 : Wn.cell? ⟨w.heap.size + 1, 1, none⟩ = some (.bool false) := by rw [hn0]; exact old_cell _ (new_cell2 _ _ _ _ _ _ (by simp) rfl)
  have t2 : Wn.cell? ⟨w.heap.size + 1, 2, none⟩ = some (.int .i64 0) := by rw [hn0]; exact old_cell _ (new_cell2 _ _ _ _ _ _ (by simp) rfl)
  have t3 : Wn.cell? ⟨w.heap.size + 1, 3, none⟩ = some (.int .i64 0) := by rw [hn0]; exact old_cell _ (new_cell2 _ _ _ _ _ _ (by simp) rfl)
  have q0 : Wn.cell? ⟨w.heap.size + 2, 0, none⟩ = some (.int .i64 0) := by rw [hn0]; exact new_cell2 _ _ _ _ _ _ (by simp) rfl
  have qf0 : Wn.frozen? ⟨w.heap.size + 2, 0, none⟩ = false := by rw [hn0]; exact new_loose2 _ _ _ _ _ (by simp)
  have q1 : Wn.cell? ⟨w.heap.size + 2, 1, none⟩ = some (.bool false) := by rw [hn0]; exact new_cell2 _ _ _ _ _ _ (by simp) rfl
  have qf1 : Wn.frozen? ⟨w.heap.size + 2, 1, none⟩ = false := by rw [hn0]; exact new_loose2 _ _ _ _ _ (by simp)
  have q2 : Wn.cell? ⟨w.heap.size + 2, 2, none⟩ = some (.int .i64 0) := by rw [hn0]; exact new_cell2 _ _ _ _ _ _ (by simp) rfl
  have qf2 : Wn.frozen? ⟨w.heap.size + 2, 2, none⟩ = false := by rw [hn0]; exact new_loose2 _ _ _ _ _ (by simp)
  have q3 : Wn.cell? ⟨w.heap.size + 2, 3, none⟩ = some (.int .i64 0) := by rw [hn0]; exact new_cell2 _ _ _ _ _ _ (by simp) rfl
  have qf3 : Wn.frozen? ⟨w.heap.size + 2, 3, none⟩ = false := by rw [hn0]; exact new_loose2 _ _ _ _ _ (by simp)
  have s0 : Wn.heap.size = w.heap.size + 3 := by rw [hn0]; exact by simp
  subst hn0
  have K := hide (k0)
  clear k0
  have S0 := hide s0
  clear s0
  go_enter Tryd.func13, Tryd.ntmps13
  go_wp2_with fail
  generalize (((w.alloc (.cells #[.int .i64 0, .bool n1, .int .i64 0, .int .i64 0] 24)).alloc (.cells #[.int .i64 3, .bool false, .int .i64 0, .int .i64 0] 24)).alloc (.cells #[.int .i64 0, .bool false, .int .i64 0, .int .i64 0] 24)) = W at *
  refine (nan_kept _).mono ?_
  rintro e w1 ⟨rfl, k1⟩
  replace qf0 := k1.loose0 (zbl q0) qf0
  replace qf1 := k1.loose0 (zbl q1) qf1
  replace qf2 := k1.loose0 (zbl q2) qf2
  replace qf3 := k1.loose0 (zbl q3) qf3
  replace p0 := k1.cell0 p0
  replace p1 := k1.cell0 p1
  replace p2 := k1.cell0 p2
  replace p3 := k1.cell0 p3
  replace t0 := k1.cell0 t0
  replace t1 := k1.cell0 t1
  replace t2 := k1.cell0 t2
  replace t3 := k1.cell0 t3
  replace q0 := k1.cell0 q0
  replace q1 := k1.cell0 q1
  replace q2 := k1.cell0 q2
  replace q3 := k1.cell0 q3
  replace K := hide ((unhide K).trans k1)
  have z2 := k1.size
  clear k1
  have KF := hide (((((unhide K).setNew (p := ⟨w.heap.size + 2, 0, none⟩) (by simp) (.int .i64 3)).setNew (p := ⟨w.heap.size + 2, 1, none⟩) (by simp) (.bool false)).setNew (p := ⟨w.heap.size + 2, 2, none⟩) (by simp) (.int .i64 0)).setNew (p := ⟨w.heap.size + 2, 3, none⟩) (by simp) (.int .i64 0))
  clear K
  try go_wp2_with fail
  exact bodyPost_ret (v := .tuple #[.agg #[.int .i64 3, .bool false, .int .i64 0, .int .i64 0], .int .i64 0]) (by simp [results, Tryd.results13, go_sem, q0, q1, q2, q3]) rfl ⟨by rw [unhide FQ], unhide KF⟩

set_option maxHeartbeats 2000000 in
theorem addS_inf_num (n1 : Bool) (n2 : Bool) (m2 e2 : Int) (a12 : -1074 ≤ e2) (a22 : e2 ≤ 971) (a32 : 1 ≤ m2) (a42 : m2 ≤ 9007199254740991) (mode : Int) (hm0 : 0 ≤ mode) (hm4 : mode ≤ 4) (w : World) :
    Calls Tryd.prog 13 #[flv 2 n1 0 0, flv 1 n2 m2 e2, .int .i64 mode] w fun e' w' => e' = .returned (.tuple #[flq (addQ 2 n1 0 0 1 n2 m2 e2 mode).1, .int .i64 (addQ 2 n1 0 0 1 n2 m2 e2 mode).2]) ∧ Kept 0 0 w w' := by
  obtain ⟨Q, hQ⟩ : ∃ q, addQ 2 n1 0 0 1 n2 m2 e2 mode = q := ⟨_, rfl⟩
  rw [hQ]
  have HQ := hide hQ
  clear hQ
  have FQ : Hid (Q = ((2, n1, 0, 0), 0)) := by show _ = _; rw [← unhide HQ]; unfold addQ; simp
  obtain ⟨Wn, hn0⟩ : ∃ wz, wz = (((w.alloc (.cells #[.int .i64 2, .bool n1, .int .i64 0, .int .i64 0] 24)).alloc (.cells #[.int .i64 1, .bool n2, .int .i64 m2, .int .i64 e2] 24)).alloc (.cells #[.int .i64 0, .bool false, .int .i64 0, .int .i64 0] 24)) := ⟨_, rfl⟩
  have k0 : Kept 0 0 w Wn := by rw [hn0]; exact ((((Kept.refl 0 0 w).alloc _).alloc _).alloc _)
  have p0 : Wn.cell? ⟨w.heap.size, 0, none⟩ = some (.int .i64 2) := by rw [hn0]; exact old_cell _ (old_cell _ (new_cell2 _ _ _ _ _ _ (by simp) rfl))
  have p1 : Wn.cell? ⟨w.heap.size, 1, none⟩ = some (.bool n1) := by rw [hn0]; exact old_cell _ (old_cell _ (new_cell2 _ _ _ _ _ _ (by simp) rfl))
  have p2 : Wn.cell? ⟨w.heap.size, 2, none⟩ = some (.int .i64 0) := by rw [hn0]; exact old_cell _ (old_cell _ (new_cell2 _ _ _ _ _ _ (by simp) rfl))
  have p3 : Wn.cell? ⟨w.heap.size, 3, none⟩ = some (.int .i64 0) := by rw [hn0]; exact old_cell _ (old_cell _ (new_cell2 _ _ _ _ _ _ (by simp) rfl))
  have t0 : Wn.cell? ⟨w.heap.size + 1, 0, none⟩ = some (.int .i64 1) := by rw [hn0]; exact old_cell _ (new_cell2 _ _ _ _ _ _ (by simp) rfl)
  have t1 : Wn.cell? ⟨w.heap.size + 1, 1, none⟩ = some (.bool n2) := by rw [hn0]; exact old_cell _ (new_cell2 _ _ _ _ _ _ (by simp) rfl)
  have t2 : Wn.cell? ⟨w.heap.size + 1, 2, none⟩ = some (.int .i64 m2) := by rw [hn0]; exact old_cell _ (new_cell2 _ _ _ _ _ _ (by simp) rfl)
  have t3 : Wn.cell? ⟨w.heap.size + 1, 3, none⟩ = some (.int .i64 e2) := by rw [hn0]; exact old_cell _ (new_cell2 _ _ _ _ _ _ (by simp) rfl)
  have q0 : Wn.cell? ⟨w.heap.size + 2, 0, none⟩ = some (.int .i64 0) := by rw [hn0]; exact new_cell2 _ _ _ _ _ _ (by simp) rfl
  have qf0 : Wn.frozen? ⟨w.heap.size + 2, 0, none⟩ = false := by rw [hn0]; exact new_loose2 _ _ _ _ _ (by simp)
  have q1 : Wn.cell? ⟨w.heap.size + 2, 1, none⟩ = some (.bool false) := by rw [hn0]; exact new_cell2 _ _ _ _ _ _ (by simp) rfl
  have qf1 : Wn.frozen? ⟨w.heap.size + 2, 1, none⟩ = false := by rw [hn0]; exact new_loose2 _ _ _ _ _ (by simp)
  have q2 : Wn.cell? ⟨w.heap.size + 2, 2, none⟩ = some (.int .i64 0) := by rw [hn0]; exact new_cell2 _ _ _ _ _ _ (by simp) rfl
  have qf2 : Wn.frozen? ⟨w.heap.size + 2, 2, none⟩ = false := by rw [hn0]; exact new_loose2 _ _ _ _ _ (by simp)
  have q3 : Wn.cell? ⟨w.heap.size + 2, 3, none⟩ = some (.int .i64 0) := by rw [hn0]; exact new_cell2 _ _ _ _ _ _ (by simp) rfl
  have qf3 : Wn.frozen? ⟨w.heap.size + 2, 3, none⟩ = false := by rw [hn0]; exact new_loose2 _ _ _ _ _ (by simp)
  have s0 : Wn.heap.size = w.heap.size + 3 := by rw [hn0]; exact by simp
  subst hn0
  have K := hide (k0)
  clear k0
  have S0 := hide s0
  clear s0
  go_enter Tryd.func13, Tryd.ntmps13
  have KF := hide ((((Kept.refl 0 0 w).alloc (.cells #[.int .i64 2, .bool n1, .int .i64 0, .int .i64 0] 24)).alloc (.cells #[.int .i64 1, .bool n2, .int .i64 m2, .int .i64 e2] 24)).alloc (.cells #[.int .i64 2, .bool n1, .int .i64 0, .int .i64 0] 24))
  clear K
  go_wp2_with fail
  exact bodyPost_ret (v := .tuple #[.agg #[.int .i64 2, .bool n1, .int .i64 0, .int .i64 0], .int .i64 0]) (by simp [results, Tryd.results13, go_sem, q0, q1, q2, q3]) rfl ⟨by rw [unhide FQ], unhide KF⟩

set_option maxHeartbeats 2000000 in
theorem addS_inf_nought (n1 : Bool) (n2 : Bool) (mode : Int) (hm0 : 0 ≤ mode) (hm4 : mode ≤ 4) (w : World) :
    Calls Tryd.prog 13 #[flv 2 n1 0 0, flv 0 n2 0 0, .int .i64 mode] w fun e' w' => e' = .returned (.tuple #[flq (addQ 2 n1 0 0 0 n2 0 0 mode).1, .int .i64 (addQ 2 n1 0 0 0 n2 0 0 mode).2]) ∧ Kept 0 0 w w' := by
  obtain ⟨Q, hQ⟩ : ∃ q, addQ 2 n1 0 0 0 n2 0 0 mode = q := ⟨_, rfl⟩
  rw [hQ]
  have HQ := hide hQ
  clear hQ
  have FQ : Hid (Q = ((2, n1, 0, 0), 0)) := by show _ = _; rw [← unhide HQ]; unfold addQ; simp
  obtain ⟨Wn, hn0⟩ : ∃ wz, wz = (((w.alloc (.cells #[.int .i64 2, .bool n1, .int .i64 0, .int .i64 0] 24)).alloc (.cells #[.int .i64 0, .bool n2, .int .i64 0, .int .i64 0] 24)).alloc (.cells #[.int .i64 0, .bool false, .int .i64 0, .int .i64 0] 24)) := ⟨_, rfl⟩
  have k0 : Kept 0 0 w Wn := by rw [hn0]; exact ((((Kept.refl 0 0 w).alloc _).alloc _).alloc _)
  have p0 : Wn.cell? ⟨w.heap.size, 0, none⟩ = some (.int .i64 2) := by rw [hn0]; exact old_cell _ (old_cell _ (new_cell2 _ _ _ _ _ _ (by simp) rfl))
  have p1 : Wn.cell? ⟨w.heap.size, 1, none⟩ = some (.bool n1) := by rw [hn0]; exact old_cell _ (old_cell _ (new_cell2 _ _ _ _ _ _ (by simp) rfl))
  have p2 : Wn.cell? ⟨w.heap.size, 2, none⟩ = some (.int .i64 0) := by rw [hn0]; exact old_cell _ (old_cell _ (new_cell2 _ _ _ _ _ _ (by simp) rfl))
  have p3 : Wn.cell? ⟨w.heap.size, 3, none⟩ = some (.int .i64 0) := by rw [hn0]; exact old_cell _ (old_cell _ (new_cell2 _ _ _ _ _ _ (by simp) rfl))
  have t0 : Wn.cell? ⟨w.heap.size + 1, 0, none⟩ = some (.int .i64 0) := by rw [hn0]; exact old_cell _ (new_cell2 _ _ _ _ _ _ (by simp) rfl)
  have t1 : Wn.cell? ⟨w.heap.size + 1, 1, none⟩ = some (.bool n2) := by rw [hn0]; exact old_cell _ (new_cell2 _ _ _ _ _ _ (by simp) rfl)
  have t2 : Wn.cell? ⟨w.heap.size + 1, 2, none⟩ = some (.int .i64 0) := by rw [hn0]; exact old_cell _ (new_cell2 _ _ _ _ _ _ (by simp) rfl)
  have t3 : Wn.cell? ⟨w.heap.size + 1, 3, none⟩ = some (.int .i64 0) := by rw [hn0]; exact old_cell _ (new_cell2 _ _ _ _ _ _ (by simp) rfl)
  have q0 : Wn.cell? ⟨w.heap.size + 2, 0, none⟩ = some (.int .i64 0) := by rw [hn0]; exact new_cell2 _ _ _ _ _ _ (by simp) rfl
  have qf0 : Wn.frozen? ⟨w.heap.size + 2, 0, none⟩ = false := by rw [hn0]; exact new_loose2 _ _ _ _ _ (by simp)
  have q1 : Wn.cell? ⟨w.heap.size + 2, 1, none⟩ = some (.bool false) := by rw [hn0]; exact new_cell2 _ _ _ _ _ _ (by simp) rfl
  have qf1 : Wn.frozen? ⟨w.heap.size + 2, 1, none⟩ = false := by rw [hn0]; exact new_loose2 _ _ _ _ _ (by simp)
  have q2 : Wn.cell? ⟨w.heap.size + 2, 2, none⟩ = some (.int .i64 0) := by rw [hn0]; exact new_cell2 _ _ _ _ _ _ (by simp) rfl
  have qf2 : Wn.frozen? ⟨w.heap.size + 2, 2, none⟩ = false := by rw [hn0]; exact new_loose2 _ _ _ _ _ (by simp)
  have q3 : Wn.cell? ⟨w.heap.size + 2, 3, none⟩ = some (.int .i64 0) := by rw [hn0]; exact new_cell2 _ _ _ _ _ _ (by simp) rfl
  have qf3 : Wn.frozen? ⟨w.heap.size + 2, 3, none⟩ = false := by rw [hn0]; exact new_loose2 _ _ _ _ _ (by simp)
  have s0 : Wn.heap.size = w.heap.size + 3 := by rw [hn0]; exact by simp
  subst hn0
  have K := hide (k0)
  clear k0
  have S0 := hide s0
  clear s0
  go_enter Tryd.func13, Tryd.ntmps13
  have KF := hide ((((Kept.refl 0 0 w).alloc (.cells #[.int .i64 2, .bool n1, .int .i64 0, .int .i64 0] 24)).alloc (.cells #[.int .i64 0, .bool n2, .int .i64 0, .int .i64 0] 24)).alloc (.cells #[.int .i64 2, .bool n1, .int .i64 0, .int .i64 0] 24))
  clear K
  go_wp2_with fail
  exact bodyPost_ret (v := .tuple #[.agg #[.int .i64 2, .bool n1, .int .i64 0, .int .i64 0], .int .i64 0]) (by simp [results, Tryd.results13, go_sem, q0, q1, q2, q3]) rfl ⟨by rw [unhide FQ], unhide KF⟩

set_option maxHeartbeats 2000000 in
theorem addS_inf_inf_true_true (mode : Int) (hm0 : 0 ≤ mode) (hm4 : mode ≤ 4) (w : World) :
    Calls Tryd.prog 13 #[flv 2 true 0 0, flv 2 true 0 0, .int .i64 mode] w fun e' w' => e' = .returned (.tuple #[flq (addQ 2 true 0 0 2 true 0 0 mode).1, .int .i64 (addQ 2 true 0 0 2 true 0 0 mode).2]) ∧ Kept 0 0 w w' := by
  obtain ⟨Q, hQ⟩ : ∃ q, addQ 2 true 0 0 2 true 0 0 mode = q := ⟨_, rfl⟩
  rw [hQ]
  have HQ := hide hQ
  clear hQ
  have FQ : Hid (Q = ((2, true, 0, 0), 0)) := by show _ = _; rw [← unhide HQ]; unfold addQ; simp
  obtain ⟨Wn, hn0⟩ : ∃ wz, wz = (((w.alloc (.cells #[.int .i64 2, .bool true, .int .i64 0, .int .i64 0] 24)).alloc (.cells #[.int .i64 2, .bool true, .int .i64 0, .int .i64 0] 24)).alloc (.cells #[.int .i64 0, .bool false, .int .i64 0, .int .i64 0] 24)) := ⟨_, rfl⟩
  have k0 : Kept 0 0 w Wn := by rw [hn0]; exact ((((Kept.refl 0 0 w).alloc _).alloc _).alloc _)
  have p0 : Wn.cell? ⟨w.heap.size, 0, none⟩ = some (.int .i64 2) := by rw [hn0]; exact old_cell _ (old_cell _ (new_cell2 _ _ _ _ _ _ (by simp) rfl))
  have p1 : Wn.cell? ⟨w.heap.size, 1, none⟩ = some (.bool true) := by rw [hn0]; exact old_cell _ (old_cell _ (new_cell2 _ _ _ _ _ _ (by simp) rfl))
  have p2 : Wn.cell? ⟨w.heap.size, 2, none⟩ = some (.int .i64 0) := by rw [hn0]; exact old_cell _ (old_cell _ (new_cell2 _ _ _ _ _ _ (by simp) rfl))
  have p3 : Wn.cell? ⟨w.heap.size, 3, none⟩ = some (.int .i64 0) := by rw [hn0]; exact old_cell _ (old_cell _ (new_cell2 _ _ _ _ _ _ (by simp) rfl))
  have t0 : Wn.cell? ⟨w.heap.size + 1, 0, none⟩ = some (.int .i64 2) := by rw [hn0]; exact old_cell _ (new_cell2 _ _ _ _ _ _ (by simp) rfl)
  have t1 : Wn.cell? ⟨w.heap.size + 1, 1, none⟩ = some (.bool true) := by rw [hn0]; exact old_cell _ (new_cell2 _ _ _ _ _ _ (by simp) rfl)
  have t2 : Wn.cell? ⟨w.heap.size + 1, 2, none⟩ = some (.int .i64 0) := by rw [hn0]; exact old_cell _ (new_cell2 _ _ _ _ _ _ (by simp) rfl)
  have t3 : Wn.cell? ⟨w.heap.size + 1, 3, none⟩ = some (.int .i64 0) := by rw [hn0]; exact old_cell _ (new_cell2 _ _ _ _ _ _ (by simp) rfl)
  have q0 : Wn.cell? ⟨w.heap.size + 2, 0, none⟩ = some (.int .i64 0) := by rw [hn0]; exact new_cell2 _ _ _ _ _ _ (by simp) rfl
  have qf0 : Wn.frozen? ⟨w.heap.size + 2, 0, none⟩ = false := by rw [hn0]; exact new_loose2 _ _ _ _ _ (by simp)
  have q1 : Wn.cell? ⟨w.heap.size + 2, 1, none⟩ = some (.bool false) := by rw [hn0]; exact new_cell2 _ _ _ _ _ _ (by simp) rfl
  have qf1 : Wn.frozen? ⟨w.heap.size + 2, 1, none⟩ = false := by rw [hn0]; exact new_loose2 _ _ _ _ _ (by simp)
  have q2 : Wn.cell? ⟨w.heap.size + 2, 2, none⟩ = some (.int .i64 0) := by rw [hn0]; exact new_cell2 _ _ _ _ _ _ (by simp) rfl
  have qf2 : Wn.frozen? ⟨w.heap.size + 2, 2, none⟩ = false := by rw [hn0]; exact new_loose2 _ _ _ _ _ (by simp)
  have q3 : Wn.cell? ⟨w.heap.size + 2, 3, none⟩ = some (.int .i64 0) := by rw [hn0]; exact new_cell2 _ _ _ _ _ _ (by simp) rfl
  have qf3 : Wn.frozen? ⟨w.heap.size + 2, 3, none⟩ = false := by rw [hn0]; exact new_loose2 _ _ _ _ _ (by simp)
  have s0 : Wn.heap.size = w.heap.size + 3 := by rw [hn0]; exact by simp
  subst hn0
  have K := hide (k0)
  clear k0
  have S0 := hide s0
  clear s0
  go_enter Tryd.func13, Tryd.ntmps13
  have KF := hide ((((Kept.refl 0 0 w).alloc (.cells #[.int .i64 2, .bool true, .int .i64 0, .int .i64 0] 24)).alloc (.cells #[.int .i64 2, .bool true, .int .i64 0, .int .i64 0] 24)).alloc (.cells #[.int .i64 2, .bool true, .int .i64 0, .int .i64 0] 24))
  clear K
  go_wp2_with fail
  exact bodyPost_ret (v := .tuple #[.agg #[.int .i64 2, .bool true, .int .i64 0, .int .i64 0], .int .i64 0]) (by simp [results, Tryd.results13, go_sem, q0, q1, q2, q3]) rfl ⟨by rw [unhide FQ], unhide KF⟩

set_option maxHeartbeats 2000000 in
theorem addS_inf_inf_true_false (mode : Int) (hm0 : 0 ≤ mode) (hm4 : mode ≤ 4) (w : World) :
    Calls Tryd.prog 13 #[flv 2 true 0 0, flv 2 false 0 0, .int .i64 mode] w fun e' w' => e' = .returned (.tuple #[flq (addQ 2 true 0 0 2 false 0 0 mode).1, .int .i64 (addQ 2 true 0 0 2 false 0 0 mode).2]) ∧ Kept 0 0 w w' := by
  obtain ⟨Q, hQ⟩ : ∃ q, addQ 2 true 0 0 2 false 0 0 mode = q := ⟨_, rfl⟩
  rw [hQ]
  have HQ := hide hQ
  clear hQ
  have FQ : Hid (Q = ((3, false, 0, 0), 16)) := by show _ = _; rw [← unhide HQ]; unfold addQ; simp
  obtain ⟨Wn, hn0⟩ : ∃ wz, wz = (((w.alloc (.cells #[.int .i64 2, .bool true, .int .i64 0, .int .i64 0] 24)).alloc (.cells #[.int .i64 2, .bool false, .int .i64 0, .int .i64 0] 24)).alloc (.cells #[.int .i64 0, .bool false, .int .i64 0, .int .i64 0] 24)) := ⟨_, rfl⟩
  have k0 : Kept 0 0 w Wn := by rw [hn0]; exact ((((Kept.refl 0 0 w).alloc _).alloc _).alloc _)
  have p0 : Wn.cell? ⟨w.heap.size, 0, none⟩ = some (.int .i64 2) := by rw [hn0]; exact old_cell _ (old_cell _ (new_cell2 _ _ _ _ _ _ (by simp) rfl))
  have p1 : Wn.cell? ⟨w.heap.size, 1, none⟩ = some (.bool true) := by rw [hn0]; exact old_cell _ (old_cell _ (new_cell2 _ _ _ _ _ _ (by simp) rfl))
  have p2 : Wn.cell? ⟨w.heap.size, 2, none⟩ = some (.int .i64 0) := by rw [hn0]; exact old_cell _ (old_cell _ (new_cell2 _ _ _ _ _ _ (by simp) rfl))
  have p3 : Wn.cell? ⟨w.heap.size, 3, none⟩ = some (.int .i64 0) := by rw [hn0]; exact old_cell _ (old_cell _ (new_cell2 _ _ _ _ _ _ (by simp) rfl))
  have t0 : Wn.cell? ⟨w.heap.size + 1, 0, none⟩ = some (.int .i64 2) := by rw [hn0]; exact old_cell _ (new_cell2 _ _ _ _ _ _ (by simp) rfl)
  have t1 : Wn.cell? ⟨w.heap.size + 1, 1, none⟩ = some (.bool false) := by rw [hn0]; exact old_cell _ (new_cell2 _ _ _ _ _ _ (by simp) rfl)
  have t2 : Wn.cell? ⟨w.heap.size + 1, 2, none⟩ = some (.int .i64 0) := by rw [hn0]; exact old_cell _ (new_cell2 _ _ _ _ _ _ (by simp) rfl)
  have t3 : Wn.cell? ⟨w.heap.size + 1, 3, none⟩ = some (.int .i64 0) := by rw [hn0]; exact old_cell _ (new_cell2 _ _ _ _ _ _ (by simp) rfl)
  have q0 : Wn.cell? ⟨w.heap.size + 2, 0, none⟩ = some (.int .i64 0) := by rw [hn0]; exact new_cell2 _ _ _ _ _ _ (by simp) rfl
  have qf0 : Wn.frozen? ⟨w.heap.size + 2, 0, none⟩ = false := by rw [hn0]; exact new_loose2 _ _ _ _ _ (by simp)
  have q1 : Wn.cell? ⟨w.heap.size + 2, 1, none⟩ = some (.bool false) := by rw [hn0]; exact new_cell2 _ _ _ _ _ _ (by simp) rfl
  have qf1 : Wn.frozen? ⟨w.heap.size + 2, 1, none⟩ = false := by rw [hn0]; exact new_loose2 _ _ _ _ _ (by simp)
  have q2 : Wn.cell? ⟨w.heap.size + 2, 2, none⟩ = some (.int .i64 0) := by rw [hn0]; exact new_cell2 _ _ _ _ _ _ (by simp) rfl
  have qf2 : Wn.frozen? ⟨w.heap.size + 2, 2, none⟩ = false := by rw [hn0]; exact new_loose2 _ _ _ _ _ (by simp)
  have q3 : Wn.cell? ⟨w.heap.size + 2, 3, none⟩ = some (.int .i64 0) := by rw [hn0]; exact new_cell2 _ _ _ _ _ _ (by simp) rfl
  have qf3 : Wn.frozen? ⟨w.heap.size + 2, 3, none⟩ = false := by rw [hn0]; exact new_loose2 _ _ _ _ _ (by simp)
  have s0 : Wn.heap.size = w.heap.size + 3 := by rw [hn0]; exact by simp
  subst hn0
  have K := hide (k0)
  clear k0
  have S0 := hide s0
  clear s0
  go_enter Tryd.func13, Tryd.ntmps13
  go_wp2_with fail
  generalize (((w.alloc (.cells #[.int .i64 2, .bool true, .int .i64 0, .int .i64 0] 24)).alloc (.cells #[.int .i64 2, .bool false, .int .i64 0, .int .i64 0] 24)).alloc (.cells #[.int .i64 0, .bool false, .int .i64 0, .int .i64 0] 24)) = W at *
  refine (bad_spec _).mono ?_
  rintro e w1 ⟨rfl, k1⟩
  replace qf0 := k1.loose0 (zbl q0) qf0
  replace qf1 := k1.loose0 (zbl q1) qf1
  replace qf2 := k1.loose0 (zbl q2) qf2
  replace qf3 := k1.loose0 (zbl q3) qf3
  replace p0 := k1.cell0 p0
  replace p1 := k1.cell0 p1
  replace p2 := k1.cell0 p2
  replace p3 := k1.cell0 p3
  replace t0 := k1.cell0 t0
  replace t1 := k1.cell0 t1
  replace t2 := k1.cell0 t2
  replace t3 := k1.cell0 t3
  replace q0 := k1.cell0 q0
  replace q1 := k1.cell0 q1
  replace q2 := k1.cell0 q2
  replace q3 := k1.cell0 q3
  replace K := hide ((unhide K).trans k1)
  have z2 := k1.size
  clear k1
  have KF := hide (((((unhide K).setNew (p := ⟨w.heap.size + 2, 0, none⟩) (by simp) (.int .i64 3)).setNew (p := ⟨w.heap.size + 2, 1, none⟩) (by simp) (.bool false)).setNew (p := ⟨w.heap.size + 2, 2, none⟩) (by simp) (.int .i64 0)).setNew (p := ⟨w.heap.size + 2, 3, none⟩) (by simp) (.int .i64 0))
  clear K
  try go_wp2_with fail
  exact bodyPost_ret (v := .tuple #[.agg #[.int .i64 3, .bool false, .int .i64 0, .int .i64 0], .int .i64 16]) (by simp [results, Tryd.results13, go_sem, q0, q1, q2, q3]) rfl ⟨by rw [unhide FQ], unhide KF⟩

set_option maxHeartbeats 2000000 in
theorem addS_inf_inf_false_true (mode : Int) (hm0 : 0 ≤ mode) (hm4 : mode ≤ 4) (w : World) :
    Calls Tryd.prog 13 #[flv 2 false 0 0, flv 2 true 0 0, .int .i64 mode] w fun e' w' => e' = .returned (.tuple #[flq (addQ 2 false 0 0 2 true 0 0 mode).1, .int .i64 (addQ 2 false 0 0 2 true 0 0 mode).2]) ∧ Kept 0 0 w w' := by
  obtain ⟨Q, hQ⟩ : ∃ q, addQ 2 false 0 0 2 true 0 0 mode = q := ⟨_, rfl⟩
  rw [hQ]
  have HQ := hide hQ
  clear hQ
  have FQ : Hid (Q = ((3, false, 0, 0), 16)) := by show _ = _; rw [← unhide HQ]; unfold addQ; simp
  obtain ⟨Wn, hn0⟩ : ∃ wz, wz = (((w.alloc (.cells #[.int .i64 2, .bool false, .int .i64 0, .int .i64 0] 24)).alloc (.cells #[.int .i64 2, .bool true, .int .i64 0, .int .i64 0] 24)).alloc (.cells #[.int .i64 0, .bool false, .int .i64 0, .int .i64 0] 24)) := ⟨_, rfl⟩
  have k0 : Kept 0 0 w Wn := by rw [hn0]; exact ((((Kept.refl 0 0 w).alloc _).alloc _).alloc _)
  have p0 : Wn.cell? ⟨w.heap.size, 0, none⟩ = some (.int .i64 2) := by rw [hn0]; exact old_cell _ (old_cell _ (new_cell2 _ _ _ _ _ _ (by simp) rfl))
  have p1 : Wn.cell? ⟨w.heap.size, 1, none⟩ = some (.bool false) := by rw [hn0]; exact old_cell _ (old_cell _ (new_cell2 _ _ _ _ _ _ (by simp) rfl))
  have p2 : Wn.cell? ⟨w.heap.size, 2, none⟩ = some (.int .i64 0) := by rw [hn0]; exact old_cell _ (old_cell _ (new_cell2 _ _ _ _ _ _ (by simp) rfl))
  have p3 : Wn.cell? ⟨w.heap.size, 3, none⟩ = some (.int .i64 0) := by rw [hn0]; exact old_cell _ (old_cell _ (new_cell2 _ _ _ _ _ _ (by simp) rfl))
  have t0 : Wn.cell? ⟨w.heap.size + 1, 0, none⟩ = some (.int .i64 2) := by rw [hn0]; exact old_cell _ (new_cell2 _ _ _ _ _ _ (by simp) rfl)
  have t1 : Wn.cell? ⟨w.heap.size + 1, 1, none⟩ = some (.bool true) := by rw [hn0]; exact old_cell _ (new_cell2 _ _ _ _ _ _ (by simp) rfl)
  have t2 : Wn.cell? ⟨w.heap.size + 1, 2, none⟩ = some (.int .i64 0) := by rw [hn0]; exact old_cell _ (new_cell2 _ _ _ _ _ _ (by simp) rfl)
  have t3 : Wn.cell? ⟨w.heap.size + 1, 3, none⟩ = some (.int .i64 0) := by rw [hn0]; exact old_cell _ (new_cell2 _ _ _ _ _ _ (by simp) rfl)
  have q0 : Wn.cell? ⟨w.heap.size + 2, 0, none⟩ = some (.int .i64 0) := by rw [hn0]; exact new_cell2 _ _ _ _ _ _ (by simp) rfl
  have qf0 : Wn.frozen? ⟨w.heap.size + 2, 0, none⟩ = false := by rw [hn0]; exact new_loose2 _ _ _ _ _ (by simp)
  have q1 : Wn.cell? ⟨w.heap.size + 2, 1, none⟩ = some (.bool false) := by rw [hn0]; exact new_cell2 _ _ _ _ _ _ (by simp) rfl
  have qf1 : Wn.frozen? ⟨w.heap.size + 2, 1, none⟩ = false := by rw [hn0]; exact new_loose2 _ _ _ _ _ (by simp)
  have q2 : Wn.cell? ⟨w.heap.size + 2, 2, none⟩ = some (.int .i64 0) := by rw [hn0]; exact new_cell2 _ _ _ _ _ _ (by simp) rfl
  have qf2 : Wn.frozen? ⟨w.heap.size + 2, 2, none⟩ = false := by rw [hn0]; exact new_loose2 _ _ _ _ _ (by simp)
  have q3 : Wn.cell? ⟨w.heap.size + 2, 3, none⟩ = some (.int .i64 0) := by rw [hn0]; exact new_cell2 _ _ _ _ _ _ (by simp) rfl
  have qf3 : Wn.frozen? ⟨w.heap.size + 2, 3, none⟩ = false := by rw [hn0]; exact new_loose2 _ _ _ _ _ (by simp)
  have s0 : Wn.heap.size = w.heap.size + 3 := by rw [hn0]; exact by simp
  subst hn0
  have K := hide (k0)
  clear k0
  have S0 := hide s0
  clear s0
  go_enter Tryd.func13, Tryd.ntmps13
  go_wp2_with fail
  generalize (((w.alloc (.cells #[.int .i64 2, .bool false, .int .i64 0, .int .i64 0] 24)).alloc (.cells #[.int .i64 2, .bool true, .int .i64 0, .int .i64 0] 24)).alloc (.cells #[.int .i64 0, .bool false, .int .i64 0, .int .i64 0] 24)) = W at *
  refine (bad_spec _).mono ?_
  rintro e w1 ⟨rfl, k1⟩
  replace qf0 := k1.loose0 (zbl q0) qf0
  replace qf1 := k1.loose0 (zbl q1) qf1
  replace qf2 := k1.loose0 (zbl q2) qf2
  replace qf3 := k1.loose0 (zbl q3) qf3
  replace p0 := k1.cell0 p0
  replace p1 := k1.cell0 p1
  replace p2 := k1.cell0 p2
  replace p3 := k1.cell0 p3
  replace t0 := k1.cell0 t0
  replace t1 := k1.cell0 t1
  replace t2 := k1.cell0 t2
  replace t3 := k1.cell0 t3
  replace q0 := k1.cell0 q0
  replace q1 := k1.cell0 q1
  replace q2 := k1.cell0 q2
  replace q3 := k1.cell0 q3
  replace K := hide ((unhide K).trans k1)
  have z2 := k1.size
  clear k1
  have KF := hide (((((unhide K).setNew (p := ⟨w.heap.size + 2, 0, none⟩) (by simp) (.int .i64 3)).setNew (p := ⟨w.heap.size + 2, 1, none⟩) (by simp) (.bool false)).setNew (p := ⟨w.heap.size + 2, 2, none⟩) (by simp) (.int .i64 0)).setNew (p := ⟨w.heap.size + 2, 3, none⟩) (by simp) (.int .i64 0))
  clear K
  try go_wp2_with fail
  exact bodyPost_ret (v := .tuple #[.agg #[.int .i64 3, .bool false, .int .i64 0, .int .i64 0], .int .i64 16]) (by simp [results, Tryd.results13, go_sem, q0, q1, q2, q3]) rfl ⟨by rw [unhide FQ], unhide KF⟩

set_option maxHeartbeats 2000000 in
theorem addS_inf_inf_false_false (mode : Int) (hm0 : 0 ≤ mode) (hm4 : mode ≤ 4) (w : World) :
    Calls Tryd.prog 13 #[flv 2 false 0 0, flv 2 false 0 0, .int .i64 mode] w fun e' w' => e' = .returned (.tuple #[flq (addQ 2 false 0 0 2 false 0 0 mode).1, .int .i64 (addQ 2 false 0 0 2 false 0 0 mode).2]) ∧ Kept 0 0 w w' := by
  obtain ⟨Q, hQ⟩ : ∃ q, addQ 2 false 0 0 2 false 0 0 mode = q := ⟨_, rfl⟩
  rw [hQ]
  have HQ := hide hQ
  clear hQ
  have FQ : Hid (Q = ((2, false, 0, 0), 0)) := by show _ = _; rw [← unhide HQ]; unfold addQ; simp
  obtain ⟨Wn, hn0⟩ : ∃ wz, wz = (((w.alloc (.cells #[.int .i64 2, .bool false, .int .i64 0, .int .i64 0] 24)).alloc (.cells #[.int .i64 2, .bool false, .int .i64 0, .int .i64 0] 24)).alloc (.cells #[.int .i64 0, .bool false, .int .i64 0, .int .i64 0] 24)) := ⟨_, rfl⟩
  have k0 : Kept 0 0 w Wn := by rw [hn0]; exact ((((Kept.refl 0 0 w).alloc _).alloc _).alloc _)
  have p0 : Wn.cell? ⟨w.heap.size, 0, none⟩ = some (.int .i64 2) := by rw [hn0]; exact old_cell _ (old_cell _ (new_cell2 _ _ _ _ _ _ (by simp) rfl))
  have p1 : Wn.cell? ⟨w.heap.size, 1, none⟩ = some (.bool false) := by rw [hn0]; exact old_cell _ (old_cell _ (new_cell2 _ _ _ _ _ _ (by simp) rfl))
  have p2 : Wn.cell? ⟨w.heap.size, 2, none⟩ = some (.int .i64 0) := by rw [hn0]; exact old_cell _ (old_cell _ (new_cell2 _ _ _ _ _ _ (by simp) rfl))
  have p3 : Wn.cell? ⟨w.heap.size, 3, none⟩ = some (.int .i64 0) := by rw [hn0]; exact old_cell _ (old_cell _ (new_cell2 _ _ _ _ _ _ (by simp) rfl))
  have t0 : Wn.cell? ⟨w.heap.size + 1, 0, none⟩ = some (.int .i64 2) := by rw [hn0]; exact old_cell _ (new_cell2 _ _ _ _ _ _ (by simp) rfl)
  have t1 : Wn.cell? ⟨w.heap.size + 1, 1, none⟩ = some (.bool false) := by rw [hn0]; exact old_cell _ (new_cell2 _ _ _ _ _ _ (by simp) rfl)
  have t2 : Wn.cell? ⟨w.heap.size + 1, 2, none⟩ = some (.int .i64 0) := by rw [hn0]; exact old_cell _ (new_cell2 _ _ _ _ _ _ (by simp) rfl)
  have t3 : Wn.cell? ⟨w.heap.size + 1, 3, none⟩ = some (.int .i64 0) := by rw [hn0]; exact old_cell _ (new_cell2 _ _ _ _ _ _ (by simp) rfl)
  have q0 : Wn.cell? ⟨w.heap.size + 2, 0, none⟩ = some (.int .i64 0) := by rw [hn0]; exact new_cell2 _ _ _ _ _ _ (by simp) rfl
  have qf0 : Wn.frozen? ⟨w.heap.size + 2, 0, none⟩ = false := by rw [hn0]; exact new_loose2 _ _ _ _ _ (by simp)
  have q1 : Wn.cell? ⟨w.heap.size + 2, 1, none⟩ = some (.bool false) := by rw [hn0]; exact new_cell2 _ _ _ _ _ _ (by simp) rfl
  have qf1 : Wn.frozen? ⟨w.heap.size + 2, 1, none⟩ = false := by rw [hn0]; exact new_loose2 _ _ _ _ _ (by simp)
  have q2 : Wn.cell? ⟨w.heap.size + 2, 2, none⟩ = some (.int .i64 0) := by rw [hn0]; exact new_cell2 _ _ _ _ _ _ (by simp) rfl
  have qf2 : Wn.frozen? ⟨w.heap.size + 2, 2, none⟩ = false := by rw [hn0]; exact new_loose2 _ _ _ _ _ (by simp)
  have q3 : Wn.cell? ⟨w.heap.size + 2, 3, none⟩ = some (.int .i64 0) := by rw [hn0]; exact new_cell2 _ _ _ _ _ _ (by simp) rfl
  have qf3 : Wn.frozen? ⟨w.heap.size + 2, 3, none⟩ = false := by rw [hn0]; exact new_loose2 _ _ _ _ _ (by simp)
  have s0 : Wn.heap.size = w.heap.size + 3 := by rw [hn0]; exact by simp
  subst hn0
  have K := hide (k0)
  clear k0
  have S0 := hide s0
  clear s0
  go_enter Tryd.func13, Tryd.ntmps13
  have KF := hide ((((Kept.refl 0 0 w).alloc (.cells #[.int .i64 2, .bool false, .int .i64 0, .int .i64 0] 24)).alloc (.cells #[.int .i64 2, .bool false, .int .i64 0, .int .i64 0] 24)).alloc (.cells #[.int .i64 2, .bool false, .int .i64 0, .int .i64 0] 24))
  clear K
  go_wp2_with fail
  exact bodyPost_ret (v := .tuple #[.agg #[.int .i64 2, .bool false, .int .i64 0, .int .i64 0], .int .i64 0]) (by simp [results, Tryd.results13, go_sem, q0, q1, q2, q3]) rfl ⟨by rw [unhide FQ], unhide KF⟩

set_option maxHeartbeats 2000000 in
theorem addS_inf_nan (n1 : Bool) (mode : Int) (hm0 : 0 ≤ mode) (hm4 : mode ≤ 4) (w : World) :
    Calls Tryd.prog 13 #[flv 2 n1 0 0, flv 3 false 0 0, .int .i64 mode] w fun e' w' => e' = .returned (.tuple #[flq (addQ 2 n1 0 0 3 false 0 0 mode).1, .int .i64 (addQ 2 n1 0 0 3 false 0 0 mode).2]) ∧ Kept 0 0 w w' := by
  obtain ⟨Q, hQ⟩ : ∃ q, addQ 2 n1 0 0 3 false 0 0 mode = q := ⟨_, rfl⟩
  rw [hQ]
  have HQ := hide hQ
  clear hQ
  have FQ : Hid (Q = ((3, false, 0, 0), 0)) := by show _ = _; rw [← unhide HQ]; unfold addQ; simp
  obtain ⟨Wn, hn0⟩ : ∃ wz, wz = (((w.alloc (.cells #[.int .i64 2, .bool n1, .int .i64 0, .int .i64 0] 24)).alloc (.cells #[.int .i64 3, .bool false, .int .i64 0, .int .i64 0] 24)).alloc (.cells #[.int .i64 0, .bool false, .int .i64 0, .int .i64 0] 24)) := ⟨_, rfl⟩
  have k0 : Kept 0 0 w Wn := by rw [hn0]; exact ((((Kept.refl 0 0 w).alloc _).alloc _).alloc _)
  have p0 : Wn.cell? ⟨w.heap.size, 0, none⟩ = some (.int .i64 2) := by rw [hn0]; exact old_cell _ (old_cell _ (new_cell2 _ _ _ _ _ _ (by simp) rfl))
  have p1 : Wn.cell? ⟨w.heap.size, 1, none⟩ = some (.bool n1) := by rw [hn0]; exact old_cell _ (old_cell _ (new_cell2 _ _ _ _ _ _ (by simp) rfl))
  have p2 : Wn.cell? ⟨w.heap.size, 2, none⟩ = some (.int .i64 0) := by rw [hn0]; exact old_cell _ (old_cell _ (new_cell2 _ _ _ _ _ _ (by simp) rfl))
  have p3 : Wn.cell? ⟨w.heap.size, 3, none⟩ = some (.int .i64 0) := by rw [hn0]; exact old_cell _ (old_cell _ (new_cell2 _ _ _ _ _ _ (by simp) rfl))
  have t0 : Wn.cell? ⟨w.heap.size + 1, 0, none⟩ = some (.int .i64 3) := by rw [hn0]; exact old_cell _ (new_cell2 _ _ _ _ _ _ (by simp) rfl)
  have t1 : Wn.cell? ⟨w.heap.size + 1, 1, none⟩ = some (.bool false) := by rw [hn0]; exact old_cell _ (new_cell2 _ _ _ _ _ _ (by simp) rfl)
  have t2 : Wn.cell? ⟨w.heap.size + 1, 2, none⟩ = some (.int .i64 0) := by rw [hn0]; exact old_cell _ (new_cell2 _ _ _ _ _ _ (by simp) rfl)
  have t3 : Wn.cell? ⟨w.heap.size + 1, 3, none⟩ = some (.int .i64 0) := by rw [hn0]; exact old_cell _ (new_cell2 _ _ _ _ _ _ (by simp) rfl)
  have q0 : Wn.cell? ⟨w.heap.size + 2, 0, none⟩ = some (.int .i64 0) := by rw [hn0]; exact new_cell2 _ _ _ _ _ _ (by simp) rfl
  have qf0 : Wn.frozen? ⟨w.heap.size + 2, 0, none⟩ = false := by rw [hn0]; exact new_loose2 _ _ _ _ _ (by simp)
  have q1 : Wn.cell? ⟨w.heap.size + 2, 1, none⟩ = some (.bool false) := by rw [hn0]; exact new_cell2 _ _ _ _ _ _ (by simp) rfl
  have qf1 : Wn.frozen? ⟨w.heap.size + 2, 1, none⟩ = false := by rw [hn0]; exact new_loose2 _ _ _ _ _ (by simp)
  have q2 : Wn.cell? ⟨w.heap.size + 2, 2, none⟩ = some (.int .i64 0) := by rw [hn0]; exact new_cell2 _ _ _ _ _ _ (by simp) rfl
  have qf2 : Wn.frozen? ⟨w.heap.size + 2, 2, none⟩ = false := by rw [hn0]; exact new_loose2 _ _ _ _ _ (by simp)
  have q3 : Wn.cell? ⟨w.heap.size + 2, 3, none⟩ = some (.int .i64 0) := by rw [hn0]; exact new_cell2 _ _ _ _ _ _ (by simp) rfl
  have qf3 : Wn.frozen? ⟨w.heap.size + 2, 3, none⟩ = false := by rw [hn0]; exact new_loose2 _ _ _ _ _ (by simp)
  have s0 : Wn.heap.size = w.heap.size + 3 := by rw [hn0]; exact by simp
  subst hn0
  have K := hide (k0)
  clear k0
  have S0 := hide s0
  clear s0
  go_enter Tryd.func13, Tryd.ntmps13
  go_wp2_with fail
  generalize (((w.alloc (.cells #[.int .i64 2, .bool n1, .int .i64 0, .int .i64 0] 24)).alloc (.cells #[.int .i64 3, .bool false, .int .i64 0, .int .i64 0] 24)).alloc (.cells #[.int .i64 0, .bool false, .int .i64 0, .int .i64 0] 24)) = W at *
  refine (nan_kept _).mono ?_
  rintro e w1 ⟨rfl, k1⟩
  replace qf0 := k1.loose0 (zbl q0) qf0
  replace qf1 := k1.loose0 (zbl q1) qf1
  replace qf2 := k1.loose0 (zbl q2) qf2
  replace qf3 := k1.loose0 (zbl q3) qf3
  replace p0 := k1.cell0 p0
  replace p1 := k1.cell0 p1
  replace p2 := k1.cell0 p2
  replace p3 := k1.cell0 p3
  replace t0 := k1.cell0 t0
  replace t1 := k1.cell0 t1
  replace t2 := k1.cell0 t2
  replace t3 := k1.cell0 t3
  replace q0 := k1.cell0 q0
  replace q1 := k1.cell0 q1
  replace q2 := k1.cell0 q2
  replace q3 := k1.cell0 q3
  replace K := hide ((unhide K).trans k1)
  have z2 := k1.size
  clear k1
  have KF := hide (((((unhide K).setNew (p := ⟨w.heap.size + 2, 0, none⟩) (by simp) (.int .i64 3)).setNew (p := ⟨w.heap.size + 2, 1, none⟩) (by simp) (.bool false)).setNew (p := ⟨w.heap.size + 2, 2, none⟩) (by simp) (.int .i64 0)).setNew (p := ⟨w.heap.size + 2, 3, none⟩) (by simp) (.int .i64 0))
  clear K
  try go_wp2_with fail
  exact bodyPost_ret (v := .tuple #[.agg #[.int .i64 3, .bool false, .int .i64 0, .int .i64 0], .int .i64 0]) (by simp [results, Tryd.results13, go_sem, q0, q1, q2, q3]) rfl ⟨by rw [unhide FQ], unhide KF⟩

set_option maxHeartbeats 2000000 in
theorem addS_nan_num (n2 : Bool) (m2 e2 : Int) (a12 : -1074 ≤ e2) (a22 : e2 ≤ 971) (a32 : 1 ≤ m2) (a42 : m2 ≤ 9007199254740991) (mode : Int) (hm0 : 0 ≤ mode) (hm4 : mode ≤ 4) (w : World) :
    Calls Tryd.prog 13 #[flv 3 false 0 0, flv 1 n2 m2 e2, .int .i64 mode] w fun e' w' => e' = .returned (.tuple #[flq (addQ 3 false 0 0 1 n2 m2 e2 mode).1, .int .i64 (addQ 3 false 0 0 1 n2 m2 e2 mode).2]) ∧ Kept 0 0 w w' := by
  obtain ⟨Q, hQ⟩ : ∃ q, addQ 3 false 0 0 1 n2 m2 e2 mode = q := ⟨_, rfl⟩
  rw [hQ]
  have HQ := hide hQ
  clear hQ
  have FQ : Hid (Q = ((3, false, 0, 0), 0)) := by show _ = _; rw [← unhide HQ]; unfold addQ; simp
  obtain ⟨Wn, hn0⟩ : ∃ wz, wz = (((w.alloc (.cells #[.int .i64 3, .bool false, .int .i64 0, .int .i64 0] 24)).alloc (.cells #[.int .i64 1, .bool n2, .int .i64 m2, .int .i64 e2] 24)).alloc (.cells #[.int .i64 0, .bool false, .int .i64 0, .int .i64 0] 24)) := ⟨_, rfl⟩
  have k0 : Kept 0 0 w Wn := by rw [hn0]; exact ((((Kept.refl 0 0 w).alloc _).alloc _).alloc _)
  have p0 : Wn.cell? ⟨w.heap.size, 0, none⟩ = some (.int .i64 3) := by rw [hn0]; exact old_cell _ (old_cell _ (new_cell2 _ _ _ _ _ _ (by simp) rfl))
  have p1 : Wn.cell? ⟨w.heap.size, 1, none⟩ = some (.bool false) := by rw [hn0]; exact old_cell _ (old_cell _ (new_cell2 _ _ _ _ _ _ (by simp) rfl))
  have p2 : Wn.cell? ⟨w.heap.size, 2, none⟩ = some (.int .i64 0) := by rw [hn0]; exact old_cell _ (old_cell _ (new_cell2 _ _ _ _ _ _ (by simp) rfl))
  have p3 : Wn.cell? ⟨w.heap.size, 3, none⟩ = some (.int .i64 0) := by rw [hn0]; exact old_cell _ (old_cell _ (new_cell2 _ _ _ _ _ _ (by simp) rfl))
  have t0 : Wn.cell? ⟨w.heap.size + 1, 0, none⟩ = some (.int .i64 1) := by rw [hn0]; exact old_cell _ (new_cell2 _ _ _ _ _ _ (by simp) rfl)
  have t1 : Wn.cell? ⟨w.heap.size + 1, 1, none⟩ = some (.bool n2) := by rw [hn0]; exact old_cell _ (new_cell2 _ _ _ _ _ _ (by simp) rfl)
  have t2 : Wn.cell? ⟨w.heap.size + 1, 2, none⟩ = some (.int .i64 m2) := by rw [hn0]; exact old_cell _ (new_cell2 _ _ _ _ _ _ (by simp) rfl)
  have t3 : Wn.cell? ⟨w.heap.size + 1, 3, none⟩ = some (.int .i64 e2) := by rw [hn0]; exact old_cell _ (new_cell2 _ _ _ _ _ _ (by simp) rfl)
  have q0 : Wn.cell? ⟨w.heap.size + 2, 0, none⟩ = some (.int .i64 0) := by rw [hn0]; exact new_cell2 _ _ _ _ _ _ (by simp) rfl
  have qf0 : Wn.frozen? ⟨w.heap.size + 2, 0, none⟩ = false := by rw [hn0]; exact new_loose2 _ _ _ _ _ (by simp)
  have q1 : Wn.cell? ⟨w.heap.size + 2, 1, none⟩ = some (.bool false) := by rw [hn0]; exact new_cell2 _ _ _ _ _ _ (by simp) rfl
  have qf1 : Wn.frozen? ⟨w.heap.size + 2, 1, none⟩ = false := by rw [hn0]; exact new_loose2 _ _ _ _ _ (by simp)
  have q2 : Wn.cell? ⟨w.heap.size + 2, 2, none⟩ = some (.int .i64 0) := by rw [hn0]; exact new_cell2 _ _ _ _ _ _ (by simp) rfl
  have qf2 : Wn.frozen? ⟨w.heap.size + 2, 2, none⟩ = false := by rw [hn0]; exact new_loose2 _ _ _ _ _ (by simp)
  have q3 : Wn.cell? ⟨w.heap.size + 2, 3, none⟩ = some (.int .i64 0) := by rw [hn0]; exact new_cell2 _ _ _ _ _ _ (by simp) rfl
  have qf3 : Wn.frozen? ⟨w.heap.size + 2, 3, none⟩ = false := by rw [hn0]; exact new_loose2 _ _ _ _ _ (by simp)
  have s0 : Wn.heap.size = w.heap.size + 3 := by rw [hn0]; exact by simp
  subst hn0
  have K := hide (k0)
  clear k0
  have S0 := hide s0
  clear s0
  go_enter Tryd.func13, Tryd.ntmps13
  go_wp2_with fail
  generalize (((w.alloc (.cells #[.int .i64 3, .bool false, .int .i64 0, .int .i64 0] 24)).alloc (.cells #[.int .i64 1, .bool n2, .int .i64 m2, .int .i64 e2] 24)).alloc (.cells #[.int .i64 0, .bool false, .int .i64 0, .int .i64 0] 24)) = W at *
  refine (nan_kept _).mono ?_
  rintro e w1 ⟨rfl, k1⟩
  replace qf0 := k1.loose0 (zbl q0) qf0
  replace qf1 := k1.loose0 (zbl q1) qf1
  replace qf2 := k1.loose0 (zbl q2) qf2
  replace qf3 := k1.loose0 (zbl q3) qf3
  replace p0 := k1.cell0 p0
  replace p1 := k1.cell0 p1
  replace p2 := k1.cell0 p2
  replace p3 := k1.cell0 p3
  replace t0 := k1.cell0 t0
  replace t1 := k1.cell0 t1
  replace t2 := k1.cell0 t2
  replace t3 := k1.cell0 t3
  replace q0 := k1.cell0 q0
  replace q1 := k1.cell0 q1
  replace q2 := k1.cell0 q2
  replace q3 := k1.cell0 q3
  replace K := hide ((unhide K).trans k1)
  have z2 := k1.size
  clear k1
  have KF := hide (((((unhide K).setNew (p := ⟨w.heap.size + 2, 0, none⟩) (by simp) (.int .i64 3)).setNew (p := ⟨w.heap.size + 2, 1, none⟩) (by simp) (.bool false)).setNew (p := ⟨w.heap.size + 2, 2, none⟩) (by simp) (.int .i64 0)).setNew (p := ⟨w.heap.size + 2, 3, none⟩) (by simp) (.int .i64 0))
  clear K
  try go_wp2_with fail
  exact bodyPost_ret (v := .tuple #[.agg #[.int .i64 3, .bool false, .int .i64 0, .int .i64 0], .int .i64 0]) (by simp [results, Tryd.results13, go_sem, q0, q1, q2, q3]) rfl ⟨by rw [unhide FQ], unhide KF⟩

set_option maxHeartbeats 2000000 in
theorem addS_nan_nought (n2 : Bool) (mode : Int) (hm0 : 0 ≤ mode) (hm4 : mode ≤ 4) (w : World) :
    Calls Tryd.prog 13 #[flv 3 false 0 0, flv 0 n2 0 0, .int .i64 mode] w fun e' w' => e' = .returned (.tuple #[flq (addQ 3 false 0 0 0 n2 0 0 mode).1, .int .i64 (addQ 3 false 0 0 0 n2 0 0 mode).2]) ∧ Kept 0 0 w w' := by
  obtain ⟨Q, hQ⟩ : ∃ q, addQ 3 false 0 0 0 n2 0 0 mode = q := ⟨_, rfl⟩
  rw [hQ]
  have HQ := hide hQ
  clear hQ
  have FQ : Hid (Q = ((3, false, 0, 0), 0)) := by show _ = _; rw [← unhide HQ]; unfold addQ; simp
  obtain ⟨Wn, hn0⟩ : ∃ wz, wz = (((w.alloc (.cells #[.int .i64 3, .bool false, .int .i64 0, .int .i64 0] 24)).alloc (.cells #[.int .i64 0, .bool n2, .int .i64 0, .int .i64 0] 24)).alloc (.cells #[.int .i64 0, .bool false, .int .i64 0, .int .i64 0] 24)) := ⟨_, rfl⟩
  have k0 : Kept 0 0 w Wn := by rw [hn0]; exact ((((Kept.refl 0 0 w).alloc _).alloc _).alloc _)
  have p0 : Wn.cell? ⟨w.heap.size, 0, none⟩ = some (.int .i64 3) := by rw [hn0]; exact old_cell _ (old_cell _ (new_cell2 _ _ _ _ _ _ (by simp) rfl))
  have p1 : Wn.cell? ⟨w.heap.size, 1, none⟩ = some (.bool false) := by rw [hn0]; exact old_cell _ (old_cell _ (new_cell2 _ _ _ _ _ _ (by simp) rfl))
  have p2 : Wn.cell? ⟨w.heap.size, 2, none⟩ = some (.int .i64 0) := by rw [hn0]; exact old_cell _ (old_cell _ (new_cell2 _ _ _ _ _ _ (by simp) rfl))
  have p3 : Wn.cell? ⟨w.heap.size, 3, none⟩ = some (.int .i64 0) := by rw [hn0]; exact old_cell _ (old_cell _ (new_cell2 _ _ _ _ _ _ (by simp) rfl))
  have t0 : Wn.cell? ⟨w.heap.size + 1, 0, none⟩ = some (.int .i64 0) := by rw [hn0]; exact old_cell _ (new_cell2 _ _ _ _ _ _ (by simp) rfl)
  have t1 : Wn.cell? ⟨w.heap.size + 1, 1, none⟩ = some (.bool n2) := by rw [hn0]; exact old_cell _ (new_cell2 _ _ _ _ _ _ (by simp) rfl)
  have t2 : Wn.cell? ⟨w.heap.size + 1, 2, none⟩ = some (.int .i64 0) := by rw [hn0]; exact old_cell _ (new_cell2 _ _ _ _ _ _ (by simp) rfl)
  have t3 : Wn.cell? ⟨w.heap.size + 1, 3, none⟩ = some (.int .i64 0) := by rw [hn0]; exact old_cell _ (new_cell2 _ _ _ _ _ _ (by simp) rfl)
  have q0 : Wn.cell? ⟨w.heap.size + 2, 0, none⟩ = some (.int .i64 0) := by rw [hn0]; exact new_cell2 _ _ _ _ _ _ (by simp) rfl
  have qf0 : Wn.frozen? ⟨w.heap.size + 2, 0, none⟩ = false := by rw [hn0]; exact new_loose2 _ _ _ _ _ (by simp)
  have q1 : Wn.cell? ⟨w.heap.size + 2, 1, none⟩ = some (.bool false) := by rw [hn0]; exact new_cell2 _ _ _ _ _ _ (by simp) rfl
  have qf1 : Wn.frozen? ⟨w.heap.size + 2, 1, none⟩ = false := by rw [hn0]; exact new_loose2 _ _ _ _ _ (by simp)
  have q2 : Wn.cell? ⟨w.heap.size + 2, 2, none⟩ = some (.int .i64 0) := by rw [hn0]; exact new_cell2 _ _ _ _ _ _ (by simp) rfl
  have qf2 : Wn.frozen? ⟨w.heap.size + 2, 2, none⟩ = false := by rw [hn0]; exact new_loose2 _ _ _ _ _ (by simp)
  have q3 : Wn.cell? ⟨w.heap.size + 2, 3, none⟩ = some (.int .i64 0) := by rw [hn0]; exact new_cell2 _ _ _ _ _ _ (by simp) rfl
  have qf3 : Wn.frozen? ⟨w.heap.size + 2, 3, none⟩ = false := by rw [hn0]; exact new_loose2 _ _ _ _ _ (by simp)
  have s0 : Wn.heap.size = w.heap.size + 3 := by rw [hn0]; exact by simp
  subst hn0
  have K := hide (k0)
  clear k0
  have S0 := hide s0
  clear s0
  go_enter Tryd.func13, Tryd.ntmps13
  go_wp2_with fail
  generalize (((w.alloc (.cells #[.int .i64 3, .bool false, .int .i64 0, .int .i64 0] 24)).alloc (.cells #[.int .i64 0, .bool n2, .int .i64 0, .int .i64 0] 24)).alloc (.cells #[.int .i64 0, .bool false, .int .i64 0, .int .i64 0] 24)) = W at *
  refine (nan_kept _).mono ?_
  rintro e w1 ⟨rfl, k1⟩
  replace qf0 := k1.loose0 (zbl q0) qf0
  replace qf1 := k1.loose0 (zbl q1) qf1
  replace qf2 := k1.loose0 (zbl q2) qf2
  replace qf3 := k1.loose0 (zbl q3) qf3
  replace p0 := k1.cell0 p0
  replace p1 := k1.cell0 p1
  replace p2 := k1.cell0 p2
  replace p3 := k1.cell0 p3
  replace t0 := k1.cell0 t0
  replace t1 := k1.cell0 t1
  replace t2 := k1.cell0 t2
  replace t3 := k1.cell0 t3
  replace q0 := k1.cell0 q0
  replace q1 := k1.cell0 q1
  replace q2 := k1.cell0 q2
  replace q3 := k1.cell0 q3
  replace K := hide ((unhide K).trans k1)
  have z2 := k1.size
  clear k1
  have KF := hide (((((unhide K).setNew (p := ⟨w.heap.size + 2, 0, none⟩) (by simp) (.int .i64 3)).setNew (p := ⟨w.heap.size + 2, 1, none⟩) (by simp) (.bool false)).setNew (p := ⟨w.heap.size + 2, 2, none⟩) (by simp) (.int .i64 0)).setNew (p := ⟨w.heap.size + 2, 3, none⟩) (by simp) (.int .i64 0))
  clear K
  try go_wp2_with fail
  exact bodyPost_ret (v := .tuple #[.agg #[.int .i64 3, .bool false, .int .i64 0, .int .i64 0], .int .i64 0]) (by simp [results, Tryd.results13, go_sem, q0, q1, q2, q3]) rfl ⟨by rw [unhide FQ], unhide KF⟩

set_option maxHeartbeats 2000000 in
theorem addS_nan_inf (n2 : Bool) (mode : Int) (hm0 : 0 ≤ mode) (hm4 : mode ≤ 4) (w : World) :
    Calls Tryd.prog 13 #[flv 3 false 0 0, flv 2 n2 0 0, .int .i64 mode] w fun e' w' => e' = .returned (.tuple #[flq (addQ 3 false 0 0 2 n2 0 0 mode).1, .int .i64 (addQ 3 false 0 0 2 n2 0 0 mode).2]) ∧ Kept 0 0 w w' := by
  obtain ⟨Q, hQ⟩ : ∃ q, addQ 3 false 0 0 2 n2 0 0 mode = q := ⟨_, rfl⟩
  rw [hQ]
  have HQ := hide hQ
  clear hQ
  have FQ : Hid (Q = ((3, false, 0, 0), 0)) := by show _ = _; rw [← unhide HQ]; unfold addQ; simp
  obtain ⟨Wn, hn0⟩ : ∃ wz, wz = (((w.alloc (.cells #[.int .i64 3, .bool false, .int .i64 0, .int .i64 0] 24)).alloc (.cells #[.int .i64 2, .bool n2, .int .i64 0, .int .i64 0] 24)).alloc (.cells #[.int .i64 0, .bool false, .int .i64 0, .int .i64 0] 24)) := ⟨_, rfl⟩
  have k0 : Kept 0 0 w Wn := by rw [hn0]; exact ((((Kept.refl 0 0 w).alloc _).alloc _).alloc _)
  have p0 : Wn.cell? ⟨w.heap.size, 0, none⟩ = some (.int .i64 3) := by rw [hn0]; exact old_cell _ (old_cell _ (new_cell2 _ _ _ _ _ _ (by simp) rfl))
  have p1 : Wn.cell? ⟨w.heap.size, 1, none⟩ = some (.bool false) := by rw [hn0]; exact old_cell _ (old_cell _ (new_cell2 _ _ _ _ _ _ (by simp) rfl))
  have p2 : Wn.cell? ⟨w.heap.size, 2, none⟩ = some (.int .i64 0) := by rw [hn0]; exact old_cell _ (old_cell _ (new_cell2 _ _ _ _ _ _ (by simp) rfl))
  have p3 : Wn.cell? ⟨w.heap.size, 3, none⟩ = some (.int .i64 0) := by rw [hn0]; exact old_cell _ (old_cell _ (new_cell2 _ _ _ _ _ _ (by simp) rfl))
  have t0 : Wn.cell? ⟨w.heap.size + 1, 0, none⟩ = some (.int .i64 2) := by rw [hn0]; exact old_cell _ (new_cell2 _ _ _ _ _ _ (by simp) rfl)
  have t1 : Wn.cell? ⟨w.heap.size + 1, 1, none⟩ = some (.bool n2) := by rw [hn0]; exact old_cell _ (new_cell2 _ _ _ _ _ _ (by simp) rfl)
  have t2 : Wn.cell? ⟨w.heap.size + 1, 2, none⟩ = some (.int .i64 0) := by rw [hn0]; exact old_cell _ (new_cell2 _ _ _ _ _ _ (by simp) rfl)
  have t3 : Wn.cell? ⟨w.heap.size + 1, 3, none⟩ = some (.int .i64 0) := by rw [hn0]; exact old_cell _ (new_cell2 _ _ _ _ _ _ (by simp) rfl)
  have q0 : Wn.cell? ⟨w.heap.size + 2, 0, none⟩ = some (.int .i64 0) := by rw [hn0]; exact new_cell2 _ _ _ _ _ _ (by simp) rfl
  have qf0 : Wn.frozen? ⟨w.heap.size + 2, 0, none⟩ = false := by rw [hn0]; exact new_loose2 _ _ _ _ _ (by simp)
  have q1 : Wn.cell? ⟨w.heap.size + 2, 1, none⟩ = some (.bool false) := by rw [hn0]; exact new_cell2 _ _ _ _ _ _ (by simp) rfl
  have qf1 : Wn.frozen? ⟨w.heap.size + 2, 1, none⟩ = false := by rw [hn0]; exact new_loose2 _ _ _ _ _ (by simp)
  have q2 : Wn.cell? ⟨w.heap.size + 2, 2, none⟩ = some (.int .i64 0) := by rw [hn0]; exact new_cell2 _ _ _ _ _ _ (by simp) rfl
  have qf2 : Wn.frozen? ⟨w.heap.size + 2, 2, none⟩ = false := by rw [hn0]; exact new_loose2 _ _ _ _ _ (by simp)
  have q3 : Wn.cell? ⟨w.heap.size + 2, 3, none⟩ = some (.int .i64 0) := by rw [hn0]; exact new_cell2 _ _ _ _ _ _ (by simp) rfl
  have qf3 : Wn.frozen? ⟨w.heap.size + 2, 3, none⟩ = false := by rw [hn0]; exact new_loose2 _ _ _ _ _ (by simp)
  have s0 : Wn.heap.size = w.heap.size + 3 := by rw [hn0]; exact by simp
  subst hn0
  have K := hide (k0)
  clear k0
  have S0 := hide s0
  clear s0
  go_enter Tryd.func13, Tryd.ntmps13
  go_wp2_with fail
  generalize (((w.alloc (.cells #[.int .i64 3, .bool false, .int .i64 0, .int .i64 0] 24)).alloc (.cells #[.int .i64 2, .bool n2, .int .i64 0, .int .i64 0] 24)).alloc (.cells #[.int .i64 0, .bool false, .int .i64 0, .int .i64 0] 24)) = W at *
  refine (nan_kept _).mono ?_
  rintro e w1 ⟨rfl, k1⟩
  replace qf0 := k1.loose0 (zbl q0) qf0
  replace qf1 := k1.loose0 (zbl q1) qf1
  replace qf2 := k1.loose0 (zbl q2) qf2
  replace qf3 := k1.loose0 (zbl q3) qf3
  replace p0 := k1.cell0 p0
  replace p1 := k1.cell0 p1
  replace p2 := k1.cell0 p2
  replace p3 := k1.cell0 p3
  replace t0 := k1.cell0 t0
  replace t1 := k1.cell0 t1
  replace t2 := k1.cell0 t2
  replace t3 := k1.cell0 t3
  replace q0 := k1.cell0 q0
  replace q1 := k1.cell0 q1
  replace q2 := k1.cell0 q2
  replace q3 := k1.cell0 q3
  replace K := hide ((unhide K).trans k1)
  have z2 := k1.size
  clear k1
  have KF := hide (((((unhide K).setNew (p := ⟨w.heap.size + 2, 0, none⟩) (by simp) (.int .i64 3)).setNew (p := ⟨w.heap.size + 2, 1, none⟩) (by simp) (.bool false)).setNew (p := ⟨w.heap.size + 2, 2, none⟩) (by simp) (.int .i64 0)).setNew (p := ⟨w.heap.size + 2, 3, none⟩) (by simp) (.int .i64 0))
  clear K
  try go_wp2_with fail
  exact bodyPost_ret (v := .tuple #[.agg #[.int .i64 3, .bool false, .int .i64 0, .int .i64 0], .int .i64 0]) (by simp [results, Tryd.results13, go_sem, q0, q1, q2, q3]) rfl ⟨by rw [unhide FQ], unhide KF⟩

set_option maxHeartbeats 2000000 in
theorem addS_nan_nan (mode : Int) (hm0 : 0 ≤ mode) (hm4 : mode ≤ 4) (w : World) :
    Calls Tryd.prog 13 #[flv 3 false 0 0, flv 3 false 0 0, .int .i64 mode] w fun e' w' => e' = .returned (.tuple #[flq (addQ 3 false 0 0 3 false 0 0 mode).1, .int .i64 (addQ 3 false 0 0 3 false 0 0 mode).2]) ∧ Kept 0 0 w w' := by
  obtain ⟨Q, hQ⟩ : ∃ q, addQ 3 false 0 0 3 false 0 0 mode = q := ⟨_, rfl⟩
  rw [hQ]
  have HQ := hide hQ
  clear hQ
  have FQ : Hid (Q = ((3, false, 0, 0), 0)) := by show _ = _; rw [← unhide HQ]; unfold addQ; simp
  obtain ⟨Wn, hn0⟩ : ∃ wz, wz = (((w.alloc (.cells #[.int .i64 3, .bool false, .int .i64 0, .int .i64 0] 24)).alloc (.cells #[.int .i64 3, .bool false, .int .i64 0, .int .i64 0] 24)).alloc (.cells #[.int .i64 0, .bool false, .int .i64 0, .int .i64 0] 24)) := ⟨_, rfl⟩
  have k0 : Kept 0 0 w Wn := by rw [hn0]; exact ((((Kept.refl 0 0 w).alloc _).alloc _).alloc _)
  have p0 : Wn.cell? ⟨w.heap.size, 0, none⟩ = some (.int .i64 3) := by rw [hn0]; exact old_cell _ (old_cell _ (new_cell2 _ _ _ _ _ _ (by simp) rfl))
  have p1 : Wn.cell? ⟨w.heap.size, 1, none⟩ = some (.bool false) := by rw [hn0]; exact old_cell _ (old_cell _ (new_cell2 _ _ _ _ _ _ (by simp) rfl))
  have p2 : Wn.cell? ⟨w.heap.size, 2, none⟩ = some (.int .i64 0) := by rw [hn0]; exact old_cell _ (old_cell _ (new_cell2 _ _ _ _ _ _ (by simp) rfl))
  have p3 : Wn.cell? ⟨w.heap.size, 3, none⟩ = some (.int .i64 0) := by rw [hn0]; exact old_cell _ (old_cell _ (new_cell2 _ _ _ _ _ _ (by simp) rfl))
  have t0 : Wn.cell? ⟨w.heap.size + 1, 0, none⟩ = some (.int .i64 3) := by rw [hn0]; exact old_cell _ (new_cell2 _ _ _ _ _ _ (by simp) rfl)
  have t1 : Wn.cell? ⟨w.heap.size + 1, 1, none⟩ = some (.bool false) := by rw [hn0]; exact old_cell _ (new_cell2 _ _ _ _ _ _ (by simp) rfl)
  have t2 : Wn.cell? ⟨w.heap.size + 1, 2, none⟩ = some (.int .i64 0) := by rw [hn0]; exact old_cell _ (new_cell2 _ _ _ _ _ _ (by simp) rfl)
  have t3 : Wn.cell? ⟨w.heap.size + 1, 3, none⟩ = some (.int .i64 0) := by rw [hn0]; exact old_cell _ (new_cell2 _ _ _ _ _ _ (by simp) rfl)
  have q0 : Wn.cell? ⟨w.heap.size + 2, 0, none⟩ = some (.int .i64 0) := by rw [hn0]; exact new_cell2 _ _ _ _ _ _ (by simp) rfl
  have qf0 : Wn.frozen? ⟨w.heap.size + 2, 0, none⟩ = false := by rw [hn0]; exact new_loose2 _ _ _ _ _ (by simp)
  have q1 : Wn.cell? ⟨w.heap.size + 2, 1, none⟩ = some (.bool false) := by rw [hn0]; exact new_cell2 _ _ _ _ _ _ (by simp) rfl
  have qf1 : Wn.frozen? ⟨w.heap.size + 2, 1, none⟩ = false := by rw [hn0]; exact new_loose2 _ _ _ _ _ (by simp)
  have q2 : Wn.cell? ⟨w.heap.size + 2, 2, none⟩ = some (.int .i64 0) := by rw [hn0]; exact new_cell2 _ _ _ _ _ _ (by simp) rfl
  have qf2 : Wn.frozen? ⟨w.heap.size + 2, 2, none⟩ = false := by rw [hn0]; exact new_loose2 _ _ _ _ _ (by simp)
  have q3 : Wn.cell? ⟨w.heap.size + 2, 3, none⟩ = some (.int .i64 0) := by rw [hn0]; exact new_cell2 _ _ _ _ _ _ (by simp) rfl
  have qf3 : Wn.frozen? ⟨w.heap.size + 2, 3, none⟩ = false := by rw [hn0]; exact new_loose2 _ _ _ _ _ (by simp)
  have s0 : Wn.heap.size = w.heap.size + 3 := by rw [hn0]; exact by simp
  subst hn0
  have K := hide (k0)
  clear k0
  have S0 := hide s0
  clear s0
  go_enter Tryd.func13, Tryd.ntmps13
  go_wp2_with fail
  generalize (((w.alloc (.cells #[.int .i64 3, .bool false, .int .i64 0, .int .i64 0] 24)).alloc (.cells #[.int .i64 3, .bool false, .int .i64 0, .int .i64 0] 24)).alloc (.cells #[.int .i64 0, .bool false, .int .i64 0, .int .i64 0] 24)) = W at *
  refine (nan_kept _).mono ?_
  rintro e w1 ⟨rfl, k1⟩
  replace qf0 := k1.loose0 (zbl q0) qf0
  replace qf1 := k1.loose0 (zbl q1) qf1
  replace qf2 := k1.loose0 (zbl q2) qf2
  replace qf3 := k1.loose0 (zbl q3) qf3
  replace p0 := k1.cell0 p0
  replace p1 := k1.cell0 p1
  replace p2 := k1.cell0 p2
  replace p3 := k1.cell0 p3
  replace t0 := k1.cell0 t0
  replace t1 := k1.cell0 t1
  replace t2 := k1.cell0 t2
  replace t3 := k1.cell0 t3
  replace q0 := k1.cell0 q0
  replace q1 := k1.cell0 q1
  replace q2 := k1.cell0 q2
  replace q3 := k1.cell0 q3
  replace K := hide ((unhide K).trans k1)
  have z2 := k1.size
  clear k1
  have KF := hide (((((unhide K).setNew (p := ⟨w.heap.size + 2, 0, none⟩) (by simp) (.int .i64 3)).setNew (p := ⟨w.heap.size + 2, 1, none⟩) (by simp) (.bool false)).setNew (p := ⟨w.heap.size + 2, 2, none⟩) (by simp) (.int .i64 0)).setNew (p := ⟨w.heap.size + 2, 3, none⟩) (by simp) (.int .i64 0))
  clear K
  try go_wp2_with fail
  exact bodyPost_ret (v := .tuple #[.agg #[.int .i64 3, .bool false, .int .i64 0, .int .i64 0], .int .i64 0]) (by simp [results, Tryd.results13, go_sem, q0, q1, q2, q3]) rfl ⟨by rw [unhide FQ], unhide KF⟩

end Go.Proofs.YtibdlbijkpkapaaDoor

