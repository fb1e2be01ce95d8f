/-
  Intervals of the model: l7own, l7fits.
-/
import Derived.Test.YtpognolidbgkkaaDoorIv1D
import Derived.Test.YtpognolidbgkkaaDoorIvN
import Derived.Test.YtpognolidbgkkaaDoorBS
import Derived.Deep.DeepCutAuto
import Derived.Deep.RegionHeld3
namespace Go.Proofs.YtpognolidbgkkaaDoor
open Go.RowKit
set_option linter.unusedVariables false
set_option maxRecDepth 8000
set_option linter.unusedSimpArgs false

set_option maxHeartbeats 2000000 in
theorem own7_spec {bw : Bool} {lo hi : Nat} {v : Value} {zs : List Int} (s : Bool) (x : Int) (wn : WN s zs) (hl : zs.length ≤ 1000000) (w : World) (r : Row .i64 bw lo hi w v zs) :
    Calls Tryd.prog 28 #[.agg #[.bool s, v, .int .i64 x]] w fun e w' => ∃ v', e = .returned (.agg #[.bool s, v', .int .i64 x]) ∧ Row .i64 true w.heap.size w'.heap.size w' v' zs ∧ Kept 0 0 w w' := by
  have g1 : (s && decide (0 < zs.length)) = s := by
   cases s
   ·rfl
   ·rw [decide_eq_true (wn.2 rfl)]; rfl
  have g2 : limbs (val zs).toNat = zs := (nrm_limbs wn.1).symm
  obtain ⟨Wn, hn0⟩ : ∃ wz, wz = ((w.alloc (.cells #[.bool s, v, .int .i64 x] 36)).alloc (.cells #[.bool false, .slice none 0 0, .int .i64 0] 36)) := ⟨_, rfl⟩
  have k0 : Kept 0 0 w Wn := by rw [hn0]; exact (((Kept.refl 0 0 w).alloc _).alloc _)
  have p0 : Wn.cell? ⟨w.heap.size, 0, none⟩ = some (.bool s) := by rw [hn0]; exact old_cell _ (new_cell2 _ _ _ _ _ _ (by simp) rfl)
  have p1 : Wn.cell? ⟨w.heap.size, 1, none⟩ = some (v) := by rw [hn0]; exact old_cell _ (new_cell2 _ _ _ _ _ _ (by simp) rfl)
  have p2 : Wn.cell? ⟨w.heap.size, 2, none⟩ = some (.int .i64 x) := by rw [hn0]; exact old_cell _ (new_cell2 _ _ _ _ _ _ (by simp) rfl)
  have q0 : Wn.cell? ⟨w.heap.size + 1, 0, none⟩ = some (.bool false) := by rw [hn0]; exact new_cell2 _ _ _ _ _ _ (by simp) rfl
  have qf0 : Wn.frozen? ⟨w.heap.size + 1, 0, none⟩ = false := by rw [hn0]; exact new_loose2 _ _ _ _ _ (by simp)
  have q1 : Wn.cell? ⟨w.heap.size + 1, 1, none⟩ = some (.slice none 0 0) := by rw [hn0]; exact new_cell2 _ _ _ _ _ _ (by simp) rfl
  have qf1 : Wn.frozen? ⟨w.heap.size + 1, 1, none⟩ = false := by rw [hn0]; exact new_loose2 _ _ _ _ _ (by simp)
  have q2 : Wn.cell? ⟨w.heap.size + 1, 2, none⟩ = some (.int .i64 0) := by rw [hn0]; exact new_cell2 _ _ _ _ _ _ (by simp) rfl
  have qf2 : Wn.frozen? ⟨w.heap.size + 1, 2, none⟩ = false := by rw [hn0]; exact new_loose2 _ _ _ _ _ (by simp)
  subst hn0
  replace r := r.kept k0 (by omega)
  have s0 : ((w.alloc (.cells #[.bool s, v, .int .i64 x] 36)).alloc (.cells #[.bool false, .slice none 0 0, .int .i64 0] 36)).heap.size = w.heap.size + 2 := by simp
  obtain ⟨a, c, hv⟩ := Row.form' r
  subst hv
  have K := hide (k0)
  clear k0
  have S0 := hide s0
  clear s0
  go_enter Tryd.func28, Tryd.ntmps28
  go_wp2_with fail
  generalize ((w.alloc (.cells #[.bool s, .slice a zs.length c, .int .i64 x] 36)).alloc (.cells #[.bool false, .slice none 0 0, .int .i64 0] 36)) = W at *
  have mk := fun w' r' => make_spec (bw := bw) (lo := lo) (hi := hi) (v := .slice a zs.length c) (zs := zs) s w' r' wn.1.1 hl
  rw [g1, g2] at mk
  clear g1 g2
  have kd := (Kept.refl 0 0 W).drew
  replace r := r.kp kd
  replace qf0 := kd.loose0 (zbl q0) qf0
  replace qf1 := kd.loose0 (zbl q1) qf1
  replace qf2 := kd.loose0 (zbl q2) qf2
  replace p0 := kd.cell0 p0
  replace p1 := kd.cell0 p1
  replace p2 := kd.cell0 p2
  replace q0 := kd.cell0 q0
  replace q1 := kd.cell0 q1
  replace q2 := kd.cell0 q2
  replace K := hide ((unhide K).trans kd)
  have z1 := kd.size
  clear kd
  refine wp_region_held_drew (S := (fun w' => w'.cell? ⟨w.heap.size, 0, none⟩ = some (.bool s) ∧ w'.cell? ⟨w.heap.size, 1, none⟩ = some (.slice a zs.length c) ∧ w'.cell? ⟨w.heap.size, 2, none⟩ = some (.int .i64 x))) (by kernel_rfl) ?_ (fun hH => ?_)
  ·exact ⟨p0, p1, p2⟩
  refine wT (i := 0) (v := .pointer (some ⟨w.heap.size, 0, none⟩)) rfl (Or.inl ⟨by rfl, ?_⟩) hH ?_
  ·intro wq hSw
   try dsimp only at hSw
   go_simp
  try simp only [Act.put, zq1, zq2, zq3, zq4, zq5, zq6]
  refine wT (i := 1) (v := .pointer (some ⟨w.heap.size, 0, none⟩)) rfl (Or.inl ⟨by rfl, ?_⟩) hH ?_
  ·intro wq hSw
   try dsimp only at hSw
   go_simp
  try simp only [Act.put, zq1, zq2, zq3, zq4, zq5, zq6]
  refine wT (i := 2) (v := .bool s) rfl (Or.inl ⟨by rfl, ?_⟩) hH ?_
  ·intro wq hSw
   try dsimp only at hSw
   go_simp
  try simp only [Act.put, zq1, zq2, zq3, zq4, zq5, zq6]
  refine wT (i := 3) (v := .pointer (some ⟨w.heap.size, 0, none⟩)) rfl (Or.inl ⟨by rfl, ?_⟩) hH ?_
  ·intro wq hSw
   try dsimp only at hSw
   go_simp
  try simp only [Act.put, zq1, zq2, zq3, zq4, zq5, zq6]
  refine wT (i := 4) (v := .pointer (some ⟨w.heap.size, 1, none⟩)) rfl (Or.inl ⟨by rfl, ?_⟩) hH ?_
  ·intro wq hSw
   try dsimp only at hSw
   go_simp
  try simp only [Act.put, zq1, zq2, zq3, zq4, zq5, zq6]
  refine wT (i := 5) (v := .agg #[.slice a zs.length c]) rfl (Or.inl ⟨by rfl, ?_⟩) hH ?_
  ·intro wq hSw
   try dsimp only at hSw
   go_simp
  try simp only [Act.put, zq1, zq2, zq3, zq4, zq5, zq6]
  refine wT (i := 7) (v := .pointer (some ⟨w.heap.size, 2, none⟩)) rfl (Or.inl ⟨by rfl, ?_⟩) hH ?_
  ·intro wq hSw
   try dsimp only at hSw
   go_simp
  try simp only [Act.put, zq1, zq2, zq3, zq4, zq5, zq6]
  refine wT (i := 8) (v := .int .i64 x) rfl (Or.inl ⟨by rfl, ?_⟩) hH ?_
  ·intro wq hSw
   try dsimp only at hSw
   go_simp
  try simp only [Act.put, zq1, zq2, zq3, zq4, zq5, zq6]
  refine wR 6 (by kernel_rfl) rfl (fun KK hK => ?_)
  simp only [zq1, zq2, zq3]
  rw [if_pos (by rfl)]
  refine wps2 50 (.tmp 5) (.tmp 8) _ rfl in_l3make (.bool s) (.agg #[.slice a zs.length c]) rfl rfl (mk _ r) ?_
  rintro e w2 ⟨v6, rfl, r6, k2⟩
  refine ⟨_, rfl, ?_⟩
  replace r := r.kp k2
  replace qf0 := k2.loose0 (zbl q0) qf0
  replace qf1 := k2.loose0 (zbl q1) qf1
  replace qf2 := k2.loose0 (zbl q2) qf2
  replace p0 := k2.cell0 p0
  replace p1 := k2.cell0 p1
  replace p2 := k2.cell0 p2
  replace q0 := k2.cell0 q0
  replace q1 := k2.cell0 q1
  replace q2 := k2.cell0 q2
  replace K := hide ((unhide K).trans k2)
  have z3 := k2.size
  clear k2
  clear hH
  refine hK.out _ _ ?_ (fun hH => ?_)
  ·exact ⟨p0, p1, p2⟩
  clear hK KK
  try simp only [Act.put, zq1, zq2, zq3, zq4, zq5, zq6]
  obtain ⟨a6, c6, hv⟩ := Row.form' r6
  subst hv
  refine wT (i := 9) (v := .agg #[.bool s, .slice a6 zs.length c6, .int .i64 x]) rfl (Or.inl ⟨by rfl, ?_⟩) hH ?_
  ·intro wq hSw
   try dsimp only at hSw
   go_simp
  try simp only [Act.put, zq1, zq2, zq3, zq4, zq5, zq6]
  refine wR 10 (by kernel_rfl) rfl (fun KK hK => ?_)
  simp only [zq1, zq2, zq3]
  rw [if_pos (by rfl)]
  go_simp
  clear hH
  refine hK.out _ _ ?_ (fun hH => ?_)
  ·have sq := unhide S0; exact ⟨(cw3 (by dsimp only; omega) p0), (cw3 (by dsimp only; omega) p1), (cw3 (by dsimp only; omega) p2)⟩
  clear hK KK
  try simp only [Act.put, zq1, zq2, zq3, zq4, zq5, zq6]
  refine wpAnyH_done (by kernel_rfl) ?_ _
  clear hH
  clear mk
  have R := hide ((((r6.set_other (p := ⟨w.heap.size + 1, 0, none⟩) (.inl (by have := unhide S0; dsimp only; omega)) (.bool s)).set_other (p := ⟨w.heap.size + 1, 1, none⟩) (.inl (by have := unhide S0; dsimp only; omega)) (.slice a6 zs.length c6)).set_other (p := ⟨w.heap.size + 1, 2, none⟩) (.inl (by have := unhide S0; dsimp only; omega)) (.int .i64 x)).tight.wider (lo' := w.heap.size) (by have := unhide S0; omega) (Nat.le_refl _))
  have K7 := hide ((((unhide K).setNew (p := ⟨w.heap.size + 1, 0, none⟩) (by simp) (.bool s)).setNew (p := ⟨w.heap.size + 1, 1, none⟩) (by simp) (.slice a6 zs.length c6)).setNew (p := ⟨w.heap.size + 1, 2, none⟩) (by simp) (.int .i64 x))
  clear r r6 K 
  go_wp2_with fail
  exact bodyPost_ret (v := .agg #[.bool s, .slice a6 zs.length c6, .int .i64 x]) (by simp [results, Tryd.results28, go_sem, q0, q1, q2]) rfl ⟨_, rfl, unhide R, unhide K7⟩

theorem in_l7own : ∀ (w : World) (args : Array Value), (callFunc 28 args).run Tryd.prog w = .ok (.enter 28 args) w := enters Tryd.func28 (by decide) (fun h => by cases h)

set_option maxHeartbeats 4000000 in
theorem fits7_spec {b1 b2 : Bool} {w1l w1h w2l w2h : Nat} {v1 v2 : Value} {l1 l2 : List Int} (s1 : Bool) (e1 : Int) (hu1 : e1 ≤ 9223372036854775807) (hd1 : -9223372036854775808 ≤ e1) (s2 : Bool) (e2 : Int) (hu2 : e2 ≤ 9223372036854775807) (hd2 : -9223372036854775808 ≤ e2) (w : World) (r1 : Row .i64 b1 w1l w1h w v1 l1) (r2 : Row .i64 b2 w2l w2h w v2 l2) :
    Calls Tryd.prog 13 #[.agg #[.bool s1, v1, .int .i64 e1, .bool s2, v2, .int .i64 e2]] w fun e w' => IvAnsS (dokB s1 l1 e1 && dokB s2 l2 e2) s1 e1 l1 s2 e2 l2 w e w' := by
  obtain ⟨O, hO⟩ : ∃ O, (dokB s1 l1 e1 && dokB s2 l2 e2) = O := ⟨_, rfl⟩
  rw [hO]
  have HO := hide hO
  clear hO
  replace r1 := r1.tight
  replace r2 := r2.tight
  obtain ⟨Wn, hn0⟩ : ∃ wz, wz = ((w.alloc (.cells #[.bool s1, v1, .int .i64 e1, .bool s2, v2, .int .i64 e2] 38)).alloc (.cells #[.bool false, .slice none 0 0, .int .i64 0, .bool false, .slice none 0 0, .int .i64 0] 38)) := ⟨_, rfl⟩
  have k0 : Kept 0 0 w Wn := by rw [hn0]; exact (((Kept.refl 0 0 w).alloc _).alloc _)
  have bp0 : Wn.cell? ⟨w.heap.size, 0, none⟩ = some (.bool s1) := by rw [hn0]; exact old_cell _ (new_cell2 _ _ _ _ _ _ (by simp) rfl)
  have bp1 : Wn.cell? ⟨w.heap.size, 1, none⟩ = some (v1) := by rw [hn0]; exact old_cell _ (new_cell2 _ _ _ _ _ _ (by simp) rfl)
  have bp2 : Wn.cell? ⟨w.heap.size, 2, none⟩ = some (.int .i64 e1) := by rw [hn0]; exact old_cell _ (new_cell2 _ _ _ _ _ _ (by simp) rfl)
  have bp3 : Wn.cell? ⟨w.heap.size, 3, none⟩ = some (.bool s2) := by rw [hn0]; exact old_cell _ (new_cell2 _ _ _ _ _ _ (by simp) rfl)
  have bp4 : Wn.cell? ⟨w.heap.size, 4, none⟩ = some (v2) := by rw [hn0]; exact old_cell _ (new_cell2 _ _ _ _ _ _ (by simp) rfl)
  have bp5 : Wn.cell? ⟨w.heap.size, 5, none⟩ = some (.int .i64 e2) := by rw [hn0]; exact old_cell _ (new_cell2 _ _ _ _ _ _ (by simp) rfl)
  have R0 : Wn.cell? ⟨w.heap.size + 1, 0, none⟩ = some (.bool false) := by rw [hn0]; exact new_cell2 _ _ _ _ _ _ (by simp) rfl
  have Ba : Wn.frozen? ⟨w.heap.size + 1, 0, none⟩ = false := by rw [hn0]; exact new_loose2 _ _ _ _ _ (by simp)
  have R1 : Wn.cell? ⟨w.heap.size + 1, 1, none⟩ = some (.slice none 0 0) := by rw [hn0]; exact new_cell2 _ _ _ _ _ _ (by simp) rfl
  have Bb : Wn.frozen? ⟨w.heap.size + 1, 1, none⟩ = false := by rw [hn0]; exact new_loose2 _ _ _ _ _ (by simp)
  have R2 : Wn.cell? ⟨w.heap.size + 1, 2, none⟩ = some (.int .i64 0) := by rw [hn0]; exact new_cell2 _ _ _ _ _ _ (by simp) rfl
  have Bc : Wn.frozen? ⟨w.heap.size + 1, 2, none⟩ = false := by rw [hn0]; exact new_loose2 _ _ _ _ _ (by simp)
  have R3 : Wn.cell? ⟨w.heap.size + 1, 3, none⟩ = some (.bool false) := by rw [hn0]; exact new_cell2 _ _ _ _ _ _ (by simp) rfl
  have Bd : Wn.frozen? ⟨w.heap.size + 1, 3, none⟩ = false := by rw [hn0]; exact new_loose2 _ _ _ _ _ (by simp)
  have R4 : Wn.cell? ⟨w.heap.size + 1, 4, none⟩ = some (.slice none 0 0) := by rw [hn0]; exact new_cell2 _ _ _ _ _ _ (by simp) rfl
  have Be : Wn.frozen? ⟨w.heap.size + 1, 4, none⟩ = false := by rw [hn0]; exact new_loose2 _ _ _ _ _ (by simp)
  have R5 : Wn.cell? ⟨w.heap.size + 1, 5, none⟩ = some (.int .i64 0) := by rw [hn0]; exact new_cell2 _ _ _ _ _ _ (by simp) rfl
  have Bf : Wn.frozen? ⟨w.heap.size + 1, 5, none⟩ = false := by rw [hn0]; exact new_loose2 _ _ _ _ _ (by simp)
  subst hn0
  replace r1 := r1.kept k0 (by omega)
  replace r2 := r2.kept k0 (by omega)
  have s0 : ((w.alloc (.cells #[.bool s1, v1, .int .i64 e1, .bool s2, v2, .int .i64 e2] 38)).alloc (.cells #[.bool false, .slice none 0 0, .int .i64 0, .bool false, .slice none 0 0, .int .i64 0] 38)).heap.size = w.heap.size + 2 := by simp
  obtain ⟨a1, c1, hv⟩ := Row.form' r1
  subst hv
  obtain ⟨a2, c2, hv⟩ := Row.form' r2
  subst hv
  have K := hide (k0)
  clear k0
  have S0 := hide s0
  clear s0
  go_enter Tryd.func13, Tryd.ntmps13
  go_wp2_with fail
  generalize ((w.alloc (.cells #[.bool s1, .slice a1 l1.length c1, .int .i64 e1, .bool s2, .slice a2 l2.length c2, .int .i64 e2] 38)).alloc (.cells #[.bool false, .slice none 0 0, .int .i64 0, .bool false, .slice none 0 0, .int .i64 0] 38)) = W at *
  refine (dok_spec s1 e1 hu1 hd1 _ r1).mono ?_
  rintro e w1 ⟨rfl, k1⟩
  replace r1 := r1.kp k1
  replace r2 := r2.kp k1
  replace Ba := k1.loose0 (zbl R0) Ba
  replace Bb := k1.loose0 (zbl R1) Bb
  replace Bc := k1.loose0 (zbl R2) Bc
  replace Bd := k1.loose0 (zbl R3) Bd
  replace Be := k1.loose0 (zbl R4) Be
  replace Bf := k1.loose0 (zbl R5) Bf
  replace bp0 := k1.cell0 bp0
  replace bp1 := k1.cell0 bp1
  replace bp2 := k1.cell0 bp2
  replace bp3 := k1.cell0 bp3
  replace bp4 := k1.cell0 bp4
  replace bp5 := k1.cell0 bp5
  replace R0 := k1.cell0 R0
  replace R1 := k1.cell0 R1
  replace R2 := k1.cell0 R2
  replace R3 := k1.cell0 R3
  replace R4 := k1.cell0 R4
  replace R5 := k1.cell0 R5
  replace K := hide ((unhide K).trans k1)
  have z2 := k1.size
  clear k1
  cases o1 : dokB s1 l1 e1
  ·have EO : Hid (O = false) := by show _ = _; rw [← unhide HO]; rw [o1]; rfl
   have K7 := hide (((((((unhide K).setNew (p := ⟨w.heap.size + 1, 0, none⟩) (by simp) (.bool false)).setNew (p := ⟨w.heap.size + 1, 1, none⟩) (by simp) (.slice none 0 0)).setNew (p := ⟨w.heap.size + 1, 2, none⟩) (by simp) (.int .i64 0)).setNew (p := ⟨w.heap.size + 1, 3, none⟩) (by simp) (.bool false)).setNew (p := ⟨w.heap.size + 1, 4, none⟩) (by simp) (.slice none 0 0)).setNew (p := ⟨w.heap.size + 1, 5, none⟩) (by simp) (.int .i64 0))
   clear r1 r2 K
   go_wp2_with fail
   exact bodyPost_ret (v := .tuple #[.agg #[.bool false, .slice none 0 0, .int .i64 0, .bool false, .slice none 0 0, .int .i64 0], .bool false]) (by simp [results, Tryd.results13, go_sem, R0, R1, R2, R3, R4, R5]) rfl (by rw [unhide EO]; exact ivS_no (unhide K7))
  have O1 := hide o1
  clear o1
  go_wp2_with fail
  refine (dok_spec s2 e2 hu2 hd2 _ r2).mono ?_
  rintro e w3 ⟨rfl, k3⟩
  replace r1 := r1.kp k3
  replace r2 := r2.kp k3
  replace Ba := k3.loose0 (zbl R0) Ba
  replace Bb := k3.loose0 (zbl R1) Bb
  replace Bc := k3.loose0 (zbl R2) Bc
  replace Bd := k3.loose0 (zbl R3) Bd
  replace Be := k3.loose0 (zbl R4) Be
  replace Bf := k3.loose0 (zbl R5) Bf
  replace bp0 := k3.cell0 bp0
  replace bp1 := k3.cell0 bp1
  replace bp2 := k3.cell0 bp2
  replace bp3 := k3.cell0 bp3
  replace bp4 := k3.cell0 bp4
  replace bp5 := k3.cell0 bp5
  replace R0 := k3.cell0 R0
  replace R1 := k3.cell0 R1
  replace R2 := k3.cell0 R2
  replace R3 := k3.cell0 R3
  replace R4 := k3.cell0 R4
  replace R5 := k3.cell0 R5
  replace K := hide ((unhide K).trans k3)
  have z4 := k3.size
  clear k3
  cases o2 : dokB s2 l2 e2
  ·have EO : Hid (O = false) := by show _ = _; rw [← unhide HO]; rw [o2, unhide O1]; rfl
   have K7 := hide (((((((unhide K).setNew (p := ⟨w.heap.size + 1, 0, none⟩) (by simp) (.bool false)).setNew (p := ⟨w.heap.size + 1, 1, none⟩) (by simp) (.slice none 0 0)).setNew (p := ⟨w.heap.size + 1, 2, none⟩) (by simp) (.int .i64 0)).setNew (p := ⟨w.heap.size + 1, 3, none⟩) (by simp) (.bool false)).setNew (p := ⟨w.heap.size + 1, 4, none⟩) (by simp) (.slice none 0 0)).setNew (p := ⟨w.heap.size + 1, 5, none⟩) (by simp) (.int .i64 0))
   clear r1 r2 K
   go_wp2_with fail
   exact bodyPost_ret (v := .tuple #[.agg #[.bool false, .slice none 0 0, .int .i64 0, .bool false, .slice none 0 0, .int .i64 0], .bool false]) (by simp [results, Tryd.results13, go_sem, R0, R1, R2, R3, R4, R5]) rfl (by rw [unhide EO]; exact ivS_no (unhide K7))
  have O2 := hide o2
  have EO : Hid (O = true) := by show _ = _; rw [← unhide HO, unhide O1, o2]; rfl
  have w1 := wok_wn (dok_parts (unhide O1)).1
  have w2 := wok_wn (dok_parts o2).1
  have n1 := (wok_int (dok_parts (unhide O1)).1).2.2.1
  have n2 := (wok_int (dok_parts o2).1).2.2.1
  clear o2
  go_wp2_with fail
  have kd := (Kept.refl 0 0 w3).drew
  replace r1 := r1.kp kd
  replace r2 := r2.kp kd
  replace Ba := kd.loose0 (zbl R0) Ba
  replace Bb := kd.loose0 (zbl R1) Bb
  replace Bc := kd.loose0 (zbl R2) Bc
  replace Bd := kd.loose0 (zbl R3) Bd
  replace Be := kd.loose0 (zbl R4) Be
  replace Bf := kd.loose0 (zbl R5) Bf
  replace bp0 := kd.cell0 bp0
  replace bp1 := kd.cell0 bp1
  replace bp2 := kd.cell0 bp2
  replace bp3 := kd.cell0 bp3
  replace bp4 := kd.cell0 bp4
  replace bp5 := kd.cell0 bp5
  replace R0 := kd.cell0 R0
  replace R1 := kd.cell0 R1
  replace R2 := kd.cell0 R2
  replace R3 := kd.cell0 R3
  replace R4 := kd.cell0 R4
  replace R5 := kd.cell0 R5
  replace K := hide ((unhide K).trans kd)
  have z5 := kd.size
  clear kd
  refine wp_region_held_drew (S := (fun w' => w'.cell? ⟨w.heap.size, 0, none⟩ = some (.bool s1) ∧ w'.cell? ⟨w.heap.size, 1, none⟩ = some (.slice a1 l1.length c1) ∧ w'.cell? ⟨w.heap.size, 2, none⟩ = some (.int .i64 e1) ∧ w'.cell? ⟨w.heap.size, 3, none⟩ = some (.bool s2) ∧ w'.cell? ⟨w.heap.size, 4, none⟩ = some (.slice a2 l2.length c2) ∧ w'.cell? ⟨w.heap.size, 5, none⟩ = some (.int .i64 e2))) (by kernel_rfl) ?_ (fun hH => ?_)
  ·exact ⟨bp0, bp1, bp2, bp3, bp4, bp5⟩
  refine wT (i := 0) (v := .pointer (some ⟨w.heap.size, 0, none⟩)) rfl (Or.inl ⟨by rfl, ?_⟩) hH ?_
  ·intro wq hSw
   try dsimp only at hSw
   go_simp
  try simp only [Act.put, zq1, zq2, zq3, zq4, zq5, zq6]
  refine wT (i := 1) (v := .agg #[.bool s1, .slice a1 l1.length c1, .int .i64 e1]) rfl (Or.inl ⟨by rfl, ?_⟩) hH ?_
  ·intro wq hSw
   try dsimp only at hSw
   go_simp
  try simp only [Act.put, zq1, zq2, zq3, zq4, zq5, zq6]
  refine wT (i := 3) (v := .pointer (some ⟨w.heap.size, 3, none⟩)) rfl (Or.inl ⟨by rfl, ?_⟩) hH ?_
  ·intro wq hSw
   try dsimp only at hSw
   go_simp
  try simp only [Act.put, zq1, zq2, zq3, zq4, zq5, zq6]
  refine wT (i := 4) (v := .agg #[.bool s2, .slice a2 l2.length c2, .int .i64 e2]) rfl (Or.inl ⟨by rfl, ?_⟩) hH ?_
  ·intro wq hSw
   try dsimp only at hSw
   go_simp
  try simp only [Act.put, zq1, zq2, zq3, zq4, zq5, zq6]
  refine wR 2 (by kernel_rfl) rfl (fun KK hK => ?_)
  simp only [zq1, zq2, zq3]
  rw [if_pos (by rfl)]
  refine wps1 28 (.tmp 16) _ rfl in_l7own (.agg #[.bool s1, .slice a1 l1.length c1, .int .i64 e1]) rfl (own7_spec s1 e1 w1 (by omega) _ r1) ?_
  rintro e w6 ⟨vA, rfl, rA, k6⟩
  refine ⟨_, rfl, ?_⟩
  replace r1 := r1.kp k6
  replace r2 := r2.kp k6
  replace Ba := k6.loose0 (zbl R0) Ba
  replace Bb := k6.loose0 (zbl R1) Bb
  replace Bc := k6.loose0 (zbl R2) Bc
  replace Bd := k6.loose0 (zbl R3) Bd
  replace Be := k6.loose0 (zbl R4) Be
  replace Bf := k6.loose0 (zbl R5) Bf
  replace bp0 := k6.cell0 bp0
  replace bp1 := k6.cell0 bp1
  replace bp2 := k6.cell0 bp2
  replace bp3 := k6.cell0 bp3
  replace bp4 := k6.cell0 bp4
  replace bp5 := k6.cell0 bp5
  replace R0 := k6.cell0 R0
  replace R1 := k6.cell0 R1
  replace R2 := k6.cell0 R2
  replace R3 := k6.cell0 R3
  replace R4 := k6.cell0 R4
  replace R5 := k6.cell0 R5
  replace K := hide ((unhide K).trans k6)
  have z7 := k6.size
  clear k6
  clear hH
  refine hK.out _ _ ?_ (fun hH => ?_)
  ·exact ⟨bp0, bp1, bp2, bp3, bp4, bp5⟩
  clear hK KK
  try simp only [Act.put, zq1, zq2, zq3, zq4, zq5, zq6]
  obtain ⟨aA, cA, hv⟩ := Row.form' rA
  subst hv
  refine wR 5 (by kernel_rfl) rfl (fun KK hK => ?_)
  simp only [zq1, zq2, zq3]
  rw [if_pos (by rfl)]
  refine wps1 28 (.tmp 19) _ rfl in_l7own (.agg #[.bool s2, .slice a2 l2.length c2, .int .i64 e2]) rfl (own7_spec s2 e2 w2 (by omega) _ r2) ?_
  rintro e w8 ⟨vB, rfl, rB, k8⟩
  refine ⟨_, rfl, ?_⟩
  replace r1 := r1.kp k8
  replace r2 := r2.kp k8
  replace rA := rA.kp k8
  replace Ba := k8.loose0 (zbl R0) Ba
  replace Bb := k8.loose0 (zbl R1) Bb
  replace Bc := k8.loose0 (zbl R2) Bc
  replace Bd := k8.loose0 (zbl R3) Bd
  replace Be := k8.loose0 (zbl R4) Be
  replace Bf := k8.loose0 (zbl R5) Bf
  replace bp0 := k8.cell0 bp0
  replace bp1 := k8.cell0 bp1
  replace bp2 := k8.cell0 bp2
  replace bp3 := k8.cell0 bp3
  replace bp4 := k8.cell0 bp4
  replace bp5 := k8.cell0 bp5
  replace R0 := k8.cell0 R0
  replace R1 := k8.cell0 R1
  replace R2 := k8.cell0 R2
  replace R3 := k8.cell0 R3
  replace R4 := k8.cell0 R4
  replace R5 := k8.cell0 R5
  replace K := hide ((unhide K).trans k8)
  have z9 := k8.size
  clear k8
  clear hH
  refine hK.out _ _ ?_ (fun hH => ?_)
  ·exact ⟨bp0, bp1, bp2, bp3, bp4, bp5⟩
  clear hK KK
  try simp only [Act.put, zq1, zq2, zq3, zq4, zq5, zq6]
  obtain ⟨aB, cB, hv⟩ := Row.form' rB
  subst hv
  refine wT (i := 6) (v := .agg #[.bool s1, .slice aA l1.length cA, .int .i64 e1, .bool s2, .slice aB l2.length cB, .int .i64 e2]) rfl (Or.inl ⟨by rfl, ?_⟩) hH ?_
  ·intro wq hSw
   try dsimp only at hSw
   go_simp
  try simp only [Act.put, zq1, zq2, zq3, zq4, zq5, zq6]
  refine wR 7 (by kernel_rfl) rfl (fun KK hK => ?_)
  simp only [zq1, zq2, zq3]
  rw [if_pos (by rfl)]
  go_simp
  clear hH
  refine hK.out _ _ ?_ (fun hH => ?_)
  ·have sq := unhide S0; exact ⟨(cw6 (by dsimp only; omega) bp0), (cw6 (by dsimp only; omega) bp1), (cw6 (by dsimp only; omega) bp2), (cw6 (by dsimp only; omega) bp3), (cw6 (by dsimp only; omega) bp4), (cw6 (by dsimp only; omega) bp5)⟩
  clear hK KK
  try simp only [Act.put, zq1, zq2, zq3, zq4, zq5, zq6]
  refine wT (i := 8) (v := .bool true) rfl (Or.inl ⟨by rfl, ?_⟩) hH ?_
  ·intro wq hSw
   try dsimp only at hSw
   go_simp
  try simp only [Act.put, zq1, zq2, zq3, zq4, zq5, zq6]
  refine wpAnyH_done (by kernel_rfl) ?_ _
  clear hH
  have RA := hide (((((((rA.set_other (p := ⟨w.heap.size + 1, 0, none⟩) (.inl (by have := unhide S0; dsimp only; omega)) (.bool s1)).set_other (p := ⟨w.heap.size + 1, 1, none⟩) (.inl (by have := unhide S0; dsimp only; omega)) (.slice aA l1.length cA)).set_other (p := ⟨w.heap.size + 1, 2, none⟩) (.inl (by have := unhide S0; dsimp only; omega)) (.int .i64 e1)).set_other (p := ⟨w.heap.size + 1, 3, none⟩) (.inl (by have := unhide S0; dsimp only; omega)) (.bool s2)).set_other (p := ⟨w.heap.size + 1, 4, none⟩) (.inl (by have := unhide S0; dsimp only; omega)) (.slice aB l2.length cB)).set_other (p := ⟨w.heap.size + 1, 5, none⟩) (.inl (by have := unhide S0; dsimp only; omega)) (.int .i64 e2)).tight.wider (lo' := w.heap.size) (by have := unhide S0; omega) (Nat.le_refl _))
  have RB := hide (((((((rB.set_other (p := ⟨w.heap.size + 1, 0, none⟩) (.inl (by have := unhide S0; dsimp only; omega)) (.bool s1)).set_other (p := ⟨w.heap.size + 1, 1, none⟩) (.inl (by have := unhide S0; dsimp only; omega)) (.slice aA l1.length cA)).set_other (p := ⟨w.heap.size + 1, 2, none⟩) (.inl (by have := unhide S0; dsimp only; omega)) (.int .i64 e1)).set_other (p := ⟨w.heap.size + 1, 3, none⟩) (.inl (by have := unhide S0; dsimp only; omega)) (.bool s2)).set_other (p := ⟨w.heap.size + 1, 4, none⟩) (.inl (by have := unhide S0; dsimp only; omega)) (.slice aB l2.length cB)).set_other (p := ⟨w.heap.size + 1, 5, none⟩) (.inl (by have := unhide S0; dsimp only; omega)) (.int .i64 e2)).tight.wider (lo' := w.heap.size) (by have := unhide S0; omega) (Nat.le_refl _))
  have K7 := hide (((((((unhide K).setNew (p := ⟨w.heap.size + 1, 0, none⟩) (by simp) (.bool s1)).setNew (p := ⟨w.heap.size + 1, 1, none⟩) (by simp) (.slice aA l1.length cA)).setNew (p := ⟨w.heap.size + 1, 2, none⟩) (by simp) (.int .i64 e1)).setNew (p := ⟨w.heap.size + 1, 3, none⟩) (by simp) (.bool s2)).setNew (p := ⟨w.heap.size + 1, 4, none⟩) (by simp) (.slice aB l2.length cB)).setNew (p := ⟨w.heap.size + 1, 5, none⟩) (by simp) (.int .i64 e2))
  clear r1 r2 rA rB K
  go_wp2_with fail
  exact bodyPost_ret (v := .tuple #[.agg #[.bool s1, .slice aA l1.length cA, .int .i64 e1, .bool s2, .slice aB l2.length cB, .int .i64 e2], .bool true]) (by simp [results, Tryd.results13, go_sem, R0, R1, R2, R3, R4, R5]) rfl (by rw [unhide EO]; exact ivS_yes (unhide RA) (unhide RB) (unhide K7))

end Go.Proofs.YtpognolidbgkkaaDoor

