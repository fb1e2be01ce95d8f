/-
  Dyadic numbers: the model's DyMul, DyAdd and DySub.
-/
import Derived.Test.YtpognolidbgkkaaDoorBS
namespace Go.Proofs.YtpognolidbgkkaaDoor
open Go.RowKit
set_option linter.unusedVariables false
set_option maxRecDepth 8000
set_option linter.unusedSimpArgs false

theorem wn_int10 (m : Int) : WN (wsg m) (wlm m) := by
  refine ⟨limbs_nrm _, fun h => ?_⟩
  have h1 : m < 0 := of_decide_eq_true h
  have := limbs_pos m.natAbs
  rw [decide_eq_true (show 0 < m.natAbs by omega)] at this
  exact of_decide_eq_true this
theorem wlm_len {m : Int} {A n : Nat} (h : m.natAbs < 2 ^ A) (hn : A ≤ 16 * n) : (wlm m).length ≤ n := by
  refine (limbs_length_le _ _).2 ?_
  rw [pow_limb]
  have := Nat.lt_of_lt_of_le h (Nat.pow_le_pow_right (n := 2) (by decide) hn)
  omega
theorem mul_lt {a b : Int} {A E : Nat} (ha : a.natAbs < 2 ^ A) (hb : b.natAbs < 2 ^ E) : (a * b).natAbs < 2 ^ (A + E) := by
  rw [Int.natAbs_mul, Nat.pow_add]
  exact Nat.mul_lt_mul'' ha hb
theorem in_l3mul : ∀ (w : World) (args : Array Value), (callFunc 52 args).run Tryd.prog w = .ok (.enter 52 args) w := enters Tryd.func52 (by decide) (fun h => by cases h)

theorem in_l4make10 : ∀ (w : World) (args : Array Value), (callFunc 51 args).run Tryd.prog w = .ok (.enter 51 args) w := enters Tryd.func51 (by decide) (fun h => by cases h)

set_option maxHeartbeats 4000000 in
theorem mul4_spec {b1 b2 : Bool} {l1 h1 l2 h2 : Nat} {v1 v2 : Value} {xs ys : List Int} (s1 s2 : Bool) (x1 x2 : Int) (w : World) (r1 : Row .i64 b1 l1 h1 w v1 xs) (r2 : Row .i64 b2 l2 h2 w v2 ys) (o1 : dokB s1 xs x1 = true) (o2 : dokB s2 ys x2 = true) :
    Calls Tryd.prog 29 #[.agg #[.bool s1, v1, .int .i64 x1], .agg #[.bool s2, v2, .int .i64 x2]] w fun e w' => ∃ v', e = .returned (.agg #[.bool (wsg (wval s1 xs * wval s2 ys)), v', .int .i64 (dex (wval s1 xs * wval s2 ys) (x1 + x2))]) ∧ Row .i64 true w.heap.size w'.heap.size w' v' (dlm (wval s1 xs * wval s2 ys)) ∧ Kept 0 0 w w' := by
  obtain ⟨w1', f1, f2, -, -⟩ := dok_parts o1
  obtain ⟨w2', f3, f4, -, -⟩ := dok_parts o2
  obtain ⟨-, -, lx, hx⟩ := wok_int w1'
  obtain ⟨-, -, ly, hy⟩ := wok_int w2'
  clear w1' w2'
  obtain ⟨M, hM⟩ : ∃ M, wval s1 xs * wval s2 ys = M := ⟨_, rfl⟩
  rw [hM]
  have hMl : M.natAbs < 2 ^ (16 * xs.length + 16 * ys.length) := by rw [← hM]; exact mul_lt (wval_lt hx.1) (wval_lt hy.1)
  obtain ⟨Wn, hn0⟩ : ∃ wz, wz = (((w.alloc (.cells #[.bool s1, v1, .int .i64 x1] 36)).alloc (.cells #[.bool s2, v2, .int .i64 x2] 36)).alloc (.cells #[.bool false, .slice none 0 0, .int .i64 0] 36)) := ⟨_, rfl⟩
  have k0 : Kept 0 0 w Wn := by rw [hn0]; exact ((((Kept.refl 0 0 w).alloc _).alloc _).alloc _)
  have p0 : Wn.cell? ⟨w.heap.size, 0, none⟩ = some (.bool s1) := by rw [hn0]; exact old_cell _ (old_cell _ (new_cell2 _ _ _ _ _ _ (by simp) rfl))
  have p1 : Wn.cell? ⟨w.heap.size, 1, none⟩ = some (v1) := by rw [hn0]; exact old_cell _ (old_cell _ (new_cell2 _ _ _ _ _ _ (by simp) rfl))
  have p2 : Wn.cell? ⟨w.heap.size, 2, none⟩ = some (.int .i64 x1) := by rw [hn0]; exact old_cell _ (old_cell _ (new_cell2 _ _ _ _ _ _ (by simp) rfl))
  have t0 : Wn.cell? ⟨w.heap.size + 1, 0, none⟩ = some (.bool s2) := by rw [hn0]; exact old_cell _ (new_cell2 _ _ _ _ _ _ (by simp) rfl)
  have t1 : Wn.cell? ⟨w.heap.size + 1, 1, none⟩ = some (v2) := by rw [hn0]; exact old_cell _ (new_cell2 _ _ _ _ _ _ (by simp) rfl)
  have t2 : Wn.cell? ⟨w.heap.size + 1, 2, none⟩ = some (.int .i64 x2) := by rw [hn0]; exact old_cell _ (new_cell2 _ _ _ _ _ _ (by simp) rfl)
  have q0 : Wn.cell? ⟨w.heap.size + 2, 0, none⟩ = some (.bool false) := by rw [hn0]; exact new_cell2 _ _ _ _ _ _ (by simp) rfl
  have qf0 : Wn.frozen? ⟨w.heap.size + 2, 0, none⟩ = false := by rw [hn0]; exact new_loose2 _ _ _ _ _ (by simp)
  have q1 : Wn.cell? ⟨w.heap.size + 2, 1, none⟩ = some (.slice none 0 0) := by rw [hn0]; exact new_cell2 _ _ _ _ _ _ (by simp) rfl
  have qf1 : Wn.frozen? ⟨w.heap.size + 2, 1, none⟩ = false := by rw [hn0]; exact new_loose2 _ _ _ _ _ (by simp)
  have q2 : Wn.cell? ⟨w.heap.size + 2, 2, none⟩ = some (.int .i64 0) := by rw [hn0]; exact new_cell2 _ _ _ _ _ _ (by simp) rfl
  have qf2 : Wn.frozen? ⟨w.heap.size + 2, 2, none⟩ = false := by rw [hn0]; exact new_loose2 _ _ _ _ _ (by simp)
  subst hn0
  replace r1 := r1.kept k0 (by omega)
  replace r2 := r2.kept k0 (by omega)
  have s0 : (((w.alloc (.cells #[.bool s1, v1, .int .i64 x1] 36)).alloc (.cells #[.bool s2, v2, .int .i64 x2] 36)).alloc (.cells #[.bool false, .slice none 0 0, .int .i64 0] 36)).heap.size = w.heap.size + 3 := by simp
  obtain ⟨a1, c1, hv⟩ := Row.form' r1
  subst hv
  obtain ⟨a2, c2, hv⟩ := Row.form' r2
  subst hv
  have K := hide (k0)
  clear k0
  have S0 := hide s0
  clear s0
  go_enter Tryd.func29, Tryd.ntmps29
  go_wp2_with fail
  generalize (((w.alloc (.cells #[.bool s1, .slice a1 xs.length c1, .int .i64 x1] 36)).alloc (.cells #[.bool s2, .slice a2 ys.length c2, .int .i64 x2] 36)).alloc (.cells #[.bool false, .slice none 0 0, .int .i64 0] 36)) = W at *
  have mk := mul3_spec s1 s2 W.drew (r1.kept (Kept.refl 0 0 W).drew (by omega)) (r2.kept (Kept.refl 0 0 W).drew (by omega)) hx hy (by omega) (by omega)
  rw [hM] at mk
  have wn := wn_int10 M
  have ln : (wlm M).length ≤ 200 := wlm_len hMl (by omega)
  have mk2 := fun w' v' lo' (r' : Row .i64 true lo' w'.heap.size w' v' (wlm M)) => make4_spec (wsg M) (x1 + x2) M (wval_int M) (by omega) (by omega) w' r' wn (by omega)
  have hw : IntKind.i64.wrap (x1 + x2) = x1 + x2 := w64 _ (by omega) (by omega)
  obtain ⟨zm, hzm⟩ : ∃ y, wlm M = y := ⟨_, rfl⟩
  obtain ⟨SG, hSG⟩ : ∃ y, wsg M = y := ⟨_, rfl⟩
  obtain ⟨ZM, hZM⟩ : ∃ y, dlm M = y := ⟨_, rfl⟩
  obtain ⟨EX, hEX⟩ : ∃ y, dex M (x1 + x2) = y := ⟨_, rfl⟩
  rw [hSG, hzm] at mk
  simp only [hzm, hSG, hZM, hEX] at mk2
  have HSG := hide hSG
  have HZM := hide hZM
  have HEX := hide hEX
  clear hzm hSG hZM hEX wn ln hM hMl
  have n_qf0 := qf0
  have n_q0 := q0
  have n_qf1 := qf1
  have n_q1 := q1
  have n_qf2 := qf2
  have n_q2 := q2
  have kd := (Kept.refl 0 0 W).drew
  replace r1 := r1.kept kd (by omega)
  replace r2 := r2.kept kd (by omega)
  replace qf0 := kd.loose0 (zbl q0) qf0
  replace qf1 := kd.loose0 (zbl q1) qf1
  replace qf2 := kd.loose0 (zbl q2) qf2
  replace p0 := kd.cell0 p0
  replace p1 := kd.cell0 p1
  replace p2 := kd.cell0 p2
  replace t0 := kd.cell0 t0
  replace t1 := kd.cell0 t1
  replace t2 := kd.cell0 t2
  replace q0 := kd.cell0 q0
  replace q1 := kd.cell0 q1
  replace q2 := kd.cell0 q2
  replace K := hide ((unhide K).trans kd)
  have z1 := kd.size
  clear kd
  refine wp_region_held_drew (S := (fun w' => w'.cell? ⟨w.heap.size, 0, none⟩ = some (.bool s1) ∧ w'.cell? ⟨w.heap.size, 1, none⟩ = some (.slice a1 xs.length c1) ∧ w'.cell? ⟨w.heap.size, 2, none⟩ = some (.int .i64 x1) ∧ w'.cell? ⟨w.heap.size + 1, 0, none⟩ = some (.bool s2) ∧ w'.cell? ⟨w.heap.size + 1, 1, none⟩ = some (.slice a2 ys.length c2) ∧ w'.cell? ⟨w.heap.size + 1, 2, none⟩ = some (.int .i64 x2))) (by kernel_rfl) ?_ (fun hH => ?_)
  ·exact ⟨p0, p1, p2, t0, t1, t2⟩
  refine wT (i := 0) (v := .pointer (some ⟨w.heap.size, 0, none⟩)) rfl (Or.inl ⟨by rfl, ?_⟩) hH ?_
  ·intro wq hSw
   try dsimp only at hSw
   go_simp
  try simp only [Act.put, zq1, zq2, zq3, zq4, zq5, zq6]
  refine wT (i := 1) (v := .agg #[.bool s1, .slice a1 xs.length c1]) rfl (Or.inl ⟨by rfl, ?_⟩) hH ?_
  ·intro wq hSw
   try dsimp only at hSw
   go_simp
  try simp only [Act.put, zq1, zq2, zq3, zq4, zq5, zq6]
  refine wT (i := 2) (v := .pointer (some ⟨w.heap.size + 1, 0, none⟩)) rfl (Or.inl ⟨by rfl, ?_⟩) hH ?_
  ·intro wq hSw
   try dsimp only at hSw
   go_simp
  try simp only [Act.put, zq1, zq2, zq3, zq4, zq5, zq6]
  refine wT (i := 3) (v := .agg #[.bool s2, .slice a2 ys.length c2]) rfl (Or.inl ⟨by rfl, ?_⟩) hH ?_
  ·intro wq hSw
   try dsimp only at hSw
   go_simp
  try simp only [Act.put, zq1, zq2, zq3, zq4, zq5, zq6]
  refine wT (i := 5) (v := .pointer (some ⟨w.heap.size, 2, none⟩)) rfl (Or.inl ⟨by rfl, ?_⟩) hH ?_
  ·intro wq hSw
   try dsimp only at hSw
   go_simp
  try simp only [Act.put, zq1, zq2, zq3, zq4, zq5, zq6]
  refine wT (i := 6) (v := .int .i64 x1) rfl (Or.inl ⟨by rfl, ?_⟩) hH ?_
  ·intro wq hSw
   try dsimp only at hSw
   go_simp
  try simp only [Act.put, zq1, zq2, zq3, zq4, zq5, zq6]
  refine wT (i := 7) (v := .pointer (some ⟨w.heap.size + 1, 2, none⟩)) rfl (Or.inl ⟨by rfl, ?_⟩) hH ?_
  ·intro wq hSw
   try dsimp only at hSw
   go_simp
  try simp only [Act.put, zq1, zq2, zq3, zq4, zq5, zq6]
  refine wT (i := 8) (v := .int .i64 x2) rfl (Or.inl ⟨by rfl, ?_⟩) hH ?_
  ·intro wq hSw
   try dsimp only at hSw
   go_simp
  try simp only [Act.put, zq1, zq2, zq3, zq4, zq5, zq6]
  refine wT (i := 9) (v := .int .i64 (x1 + x2)) rfl (Or.inl ⟨by rfl, ?_⟩) hH ?_
  ·intro wq hSw
   try dsimp only at hSw
   go_simp
  try simp only [Act.put, zq1, zq2, zq3, zq4, zq5, zq6]
  refine wR 4 (by kernel_rfl) rfl (fun KK hK => ?_)
  simp only [zq1, zq2, zq3]
  rw [if_pos (by rfl)]
  refine wps2 52 (.tmp 6) (.tmp 8) _ rfl in_l3mul (.agg #[.bool s1, .slice a1 xs.length c1]) (.agg #[.bool s2, .slice a2 ys.length c2]) rfl rfl mk ?_
  rintro e w2 ⟨v5, rfl, r5, k2⟩
  refine ⟨_, rfl, ?_⟩
  replace r1 := r1.kept k2 (by omega)
  replace r2 := r2.kept k2 (by omega)
  replace qf0 := k2.loose0 (zbl q0) qf0
  replace qf1 := k2.loose0 (zbl q1) qf1
  replace qf2 := k2.loose0 (zbl q2) qf2
  replace p0 := k2.cell0 p0
  replace p1 := k2.cell0 p1
  replace p2 := k2.cell0 p2
  replace t0 := k2.cell0 t0
  replace t1 := k2.cell0 t1
  replace t2 := k2.cell0 t2
  replace q0 := k2.cell0 q0
  replace q1 := k2.cell0 q1
  replace q2 := k2.cell0 q2
  replace K := hide ((unhide K).trans k2)
  have z3 := k2.size
  clear k2
  clear hH
  refine hK.out _ _ ?_ (fun hH => ?_)
  ·exact ⟨p0, p1, p2, t0, t1, t2⟩
  clear hK KK
  try simp only [Act.put, zq1, zq2, zq3, zq4, zq5, zq6]
  refine wR 10 (by kernel_rfl) rfl (fun KK hK => ?_)
  simp only [zq1, zq2, zq3]
  rw [if_pos (by rfl)]
  refine wps2 51 (.tmp 9) (.tmp 14) _ rfl in_l4make10 (.agg #[.bool SG, v5]) (.int .i64 (x1 + x2)) rfl rfl (mk2 _ _ _ r5) ?_
  rintro e w4 ⟨v6, rfl, r6, k4⟩
  refine ⟨_, rfl, ?_⟩
  replace r1 := r1.kept k4 (by omega)
  replace r2 := r2.kept k4 (by omega)
  replace r5 := r5.kept k4 (by omega)
  replace qf0 := k4.loose0 (zbl q0) qf0
  replace qf1 := k4.loose0 (zbl q1) qf1
  replace qf2 := k4.loose0 (zbl q2) qf2
  replace p0 := k4.cell0 p0
  replace p1 := k4.cell0 p1
  replace p2 := k4.cell0 p2
  replace t0 := k4.cell0 t0
  replace t1 := k4.cell0 t1
  replace t2 := k4.cell0 t2
  replace q0 := k4.cell0 q0
  replace q1 := k4.cell0 q1
  replace q2 := k4.cell0 q2
  replace K := hide ((unhide K).trans k4)
  have z5 := k4.size
  clear k4
  clear hH
  refine hK.out _ _ ?_ (fun hH => ?_)
  ·exact ⟨p0, p1, p2, t0, t1, t2⟩
  clear hK KK
  try simp only [Act.put, zq1, zq2, zq3, zq4, zq5, zq6]
  obtain ⟨a6, c6, hv⟩ := Row.form' r6
  subst hv
  refine wR 11 (by kernel_rfl) rfl (fun KK hK => ?_)
  simp only [zq1, zq2, zq3]
  rw [if_pos (by rfl)]
  go_simp
  clear hH
  refine hK.out _ _ ?_ (fun hH => ?_)
  ·have sq := unhide S0; exact ⟨(cw3 (by dsimp only; omega) p0), (cw3 (by dsimp only; omega) p1), (cw3 (by dsimp only; omega) p2), (cw3 (by dsimp only; omega) t0), (cw3 (by dsimp only; omega) t1), (cw3 (by dsimp only; omega) t2)⟩
  clear hK KK
  try simp only [Act.put, zq1, zq2, zq3, zq4, zq5, zq6]
  refine wpAnyH_done (by kernel_rfl) ?_ _
  clear hH
  clear mk mk2
  have R := hide ((((r6.set_other (p := ⟨w.heap.size + 2, 0, none⟩) (.inl (by have := unhide S0; dsimp only; omega)) (.bool SG)).set_other (p := ⟨w.heap.size + 2, 1, none⟩) (.inl (by have := unhide S0; dsimp only; omega)) (.slice a6 ZM.length c6)).set_other (p := ⟨w.heap.size + 2, 2, none⟩) (.inl (by have := unhide S0; dsimp only; omega)) (.int .i64 EX)).tight.wider (lo' := w.heap.size) (by have := unhide S0; omega) (Nat.le_refl _))
  have K7 := hide ((((unhide K).setNew (p := ⟨w.heap.size + 2, 0, none⟩) (by simp) (.bool SG)).setNew (p := ⟨w.heap.size + 2, 1, none⟩) (by simp) (.slice a6 ZM.length c6)).setNew (p := ⟨w.heap.size + 2, 2, none⟩) (by simp) (.int .i64 EX))
  clear r1 r2 r5 r6 K 
  go_wp2_with fail
  exact bodyPost_ret (v := .agg #[.bool SG, .slice a6 ZM.length c6, .int .i64 EX]) (by simp [results, Tryd.results29, go_sem, q0, q1, q2]) rfl ⟨_, by rw [unhide HSG, unhide HEX], by rw [unhide HZM]; exact unhide R, unhide K7⟩

end Go.Proofs.YtpognolidbgkkaaDoor

