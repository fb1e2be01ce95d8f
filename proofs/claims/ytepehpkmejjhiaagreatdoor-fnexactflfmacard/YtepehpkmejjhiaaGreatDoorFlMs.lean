/-
  Products of floats: the model's l5mul.
-/
import Derived.Test.YtepehpkmejjhiaaGreatDoorFlMu
import Derived.Test.YtepehpkmejjhiaaGreatDoorFlRd
import Derived.Deep.RegionHeld3
import Derived.Deep.DeepCutAuto
namespace Go.Proofs.YtepehpkmejjhiaaGreatDoor
open Go.RowKit
set_option linter.unusedVariables false
set_option maxRecDepth 8000
set_option linter.unusedSimpArgs false

theorem in_l5dy_m : ∀ (w : World) (args : Array Value), (callFunc 65 args).run Tryz.prog w = .ok (.enter 65 args) w := enters Tryz.func65 (by decide) (fun h => by cases h)

theorem in_l4mul_m : ∀ (w : World) (args : Array Value), (callFunc 64 args).run Tryz.prog w = .ok (.enter 64 args) w := enters Tryz.func64 (by decide) (fun h => by cases h)

theorem in_l5round_m : ∀ (w : World) (args : Array Value), (callFunc 62 args).run Tryz.prog w = .ok (.enter 62 args) w := enters Tryz.func62 (by decide) (fun h => by cases h)

theorem nan_kept (w : World) : Calls Tryz.prog 71 #[] w fun r w' => r = .returned (flv 3 false 0 0) ∧ Kept 0 0 w w' :=
  (l5nan_any w).mono (fun e w' h => ⟨h.1, by rw [h.2]; exact (Kept.refl 0 0 w).alloc _⟩)
theorem wsg_fM (n : Bool) {m : Int} (h : 1 ≤ m) : wsg (fM 1 n m) = n := by unfold wsg fM; cases n <;> simp <;> omega
theorem dok_fl (F e : Int) (h1 : F.natAbs < 2 ^ 64) (h2 : -2900 ≤ e) (h3 : e ≤ 2900) : dokB (wsg F) (dlm F) (dex F e) = true := by
  have := ok_ans F e h1 h2 h3
  unfold ansDB at this
  simpa using this
theorem dlm_abs (F : Int) : (wval (wsg F) (dlm F)).natAbs = F.natAbs / 2 ^ tz F.natAbs := by rw [wval_abs (wn_dlm F).1.1]; unfold dlm; rw [limbs_val, Int.toNat_natCast]
theorem dlm_sgn (F : Int) : wsg (wval (wsg F) (dlm F)) = wsg F := wn_sign (wn_dlm F)
theorem odd_ne {F : Int} (h : F ≠ 0) : F.natAbs / 2 ^ tz F.natAbs ≠ 0 := by have := (odd_part (n := F.natAbs) (by omega)).2; omega
theorem odd_mul {n : Nat} (h : n ≠ 0) : n / 2 ^ tz n * 2 ^ tz n = n := by
  obtain ⟨q, hq⟩ := tz_form h
  exact Nat.div_mul_cancel ⟨2 * q + 1, hq⟩
theorem sgn_mul {x y : Int} (b1 : x ≠ 0) (b2 : y ≠ 0) : wsg (x * y) = !(wsg x == wsg y) := by
  unfold wsg
  rcases Int.lt_or_lt_of_ne b1 with h | h <;> rcases Int.lt_or_lt_of_ne b2 with h' | h'
  ·have h5 : ¬ x * y < 0 := by have := Int.mul_pos_of_neg_of_neg h h'; omega
   rw [decide_eq_true h, decide_eq_true h', decide_eq_false h5]; rfl
  ·have h5 := Int.mul_neg_of_neg_of_pos h h'
   rw [decide_eq_true h, decide_eq_false (show ¬ y < 0 by omega), decide_eq_true h5]; rfl
  ·have h5 := Int.mul_neg_of_pos_of_neg h h'
   rw [decide_eq_false (show ¬ x < 0 by omega), decide_eq_true h', decide_eq_true h5]; rfl
  ·have h5 : ¬ x * y < 0 := by have := Int.mul_pos h h'; omega
   rw [decide_eq_false (show ¬ x < 0 by omega), decide_eq_false (show ¬ y < 0 by omega), decide_eq_false h5]; rfl
theorem mul_fin (mode : Int) (s : Bool) (F1 F2 e1 e2 M X : Int) (hM : wval (wsg F1) (dlm F1) * wval (wsg F2) (dlm F2) = M) (hX : dex F1 e1 + dex F2 e2 = X) (hs : F1 ≠ 0 → F2 ≠ 0 → s = !(wsg F1 == wsg F2)) :
    flA mode (wsg M) (val (dlm M)).toNat (dex M X) = flA mode s (F1.natAbs * F2.natAbs) (e1 + e2) ∧ flG mode (wsg M) (val (dlm M)).toNat (dex M X) = flG mode s (F1.natAbs * F2.natAbs) (e1 + e2) ∧ (if (val (dlm M)).toNat = 0 then s else wsg M) = s := by
  have hab : M.natAbs = (F1.natAbs / 2 ^ tz F1.natAbs) * (F2.natAbs / 2 ^ tz F2.natAbs) := by rw [← hM, Int.natAbs_mul, dlm_abs, dlm_abs]
  obtain ⟨o1, o2⟩ := fl_odd mode (wsg M) M X
  rw [← o1, ← o2]
  by_cases h1 : F1 = 0
  ·have hM0 : M = 0 := by rw [h1] at hab; simp at hab; omega
   rw [hM0, h1, dlm_zero]
   unfold flA flG
   simp [val]
  by_cases h2 : F2 = 0
  ·have hM0 : M = 0 := by rw [h2] at hab; simp at hab; omega
   rw [hM0, h2, dlm_zero]
   unfold flA flG
   simp [val]
  have g1 := odd_ne h1
  have g2 := odd_ne h2
  have d1 : dex F1 e1 = e1 + (tz F1.natAbs : Int) := by unfold dex; rw [if_neg h1]
  have d2 : dex F2 e2 = e2 + (tz F2.natAbs : Int) := by unfold dex; rw [if_neg h2]
  have hne : (F1.natAbs / 2 ^ tz F1.natAbs) * (F2.natAbs / 2 ^ tz F2.natAbs) ≠ 0 := Nat.mul_ne_zero g1 g2
  have hMne : M ≠ 0 := by intro e; rw [e] at hab; simp at hab; omega
  have hsM : wsg M = s := by
   rw [hs h1 h2, ← hM]
   have a1 := dlm_sgn F1
   have a2 := dlm_sgn F2
   have b1 : wval (wsg F1) (dlm F1) ≠ 0 := by intro e; have := dlm_abs F1; rw [e] at this; simp at this; omega
   have b2 : wval (wsg F2) (dlm F2) ≠ 0 := by intro e; have := dlm_abs F2; rw [e] at this; simp at this; omega
   rw [sgn_mul b1 b2, a1, a2]
  have hprod : F1.natAbs * F2.natAbs = (F1.natAbs / 2 ^ tz F1.natAbs) * (F2.natAbs / 2 ^ tz F2.natAbs) * 2 ^ (tz F1.natAbs + tz F2.natAbs) := by
   have c1 := odd_mul (n := F1.natAbs) (by omega)
   have c2 := odd_mul (n := F2.natAbs) (by omega)
   rw [Nat.pow_add]
   generalize F1.natAbs / 2 ^ tz F1.natAbs = a at *
   generalize F2.natAbs / 2 ^ tz F2.natAbs = b at *
   generalize 2 ^ tz F1.natAbs = p at *
   generalize 2 ^ tz F2.natAbs = q at *
   rw [← c1, ← c2, Nat.mul_mul_mul_comm]
  obtain ⟨f1, f2⟩ := fl_shift mode s hne (tz F1.natAbs + tz F2.natAbs) (e1 + e2)
  rw [← hprod] at f1 f2
  have hX2 : e1 + e2 + ((tz F1.natAbs + tz F2.natAbs : Nat) : Int) = X := by omega
  rw [hX2, ← hab] at f1 f2
  rw [f1, f2, hsM]
  refine ⟨rfl, rfl, ?_⟩
  split <;> rfl

set_option maxHeartbeats 2000000 in
theorem mulS_num_inf (n1 : Bool) (m1 e1 : Int) (n2 : Bool) (a11 : -1074 ≤ e1) (a21 : e1 ≤ 971) (a31 : 1 ≤ m1) (a41 : m1 ≤ 9007199254740991) (mode : Int) (hm0 : 0 ≤ mode) (hm4 : mode ≤ 4) (w : World) :
    Calls Tryz.prog 60 #[flv 1 n1 m1 e1, flv 2 n2 0 0, .int .i64 mode] w fun e' w' => e' = .returned (.tuple #[flq (mulQ 1 n1 m1 e1 2 n2 0 0 mode).1, .int .i64 (mulQ 1 n1 m1 e1 2 n2 0 0 mode).2]) ∧ Kept 0 0 w w' := by
  obtain ⟨Q, hQ⟩ : ∃ q, mulQ 1 n1 m1 e1 2 n2 0 0 mode = q := ⟨_, rfl⟩
  rw [hQ]
  have HQ := hide hQ
  clear hQ
  have FQ : Hid (Q = ((2, !(n1 == n2), 0, 0), 0)) := by show _ = _; rw [← unhide HQ]; unfold mulQ; simp
  obtain ⟨Wn, hn0⟩ : ∃ wz, wz = (((w.alloc (.cells #[.int .i64 1, .bool n1, .int .i64 m1, .int .i64 e1] 24)).alloc (.cells #[.int .i64 2, .bool n2, .int .i64 0, .int .i64 0] 24)).alloc (.cells #[.int .i64 0, .bool false, .int .i64 0, .int .i64 0] 24)) := ⟨_, rfl⟩
  have k0 : Kept 0 0 w Wn := by rw [hn0]; exact ((((Kept.refl 0 0 w).alloc _).alloc _).alloc _)
  have p0 : Wn.cell? ⟨w.heap.size, 0, none⟩ = some (.int .i64 1) := by rw [hn0]; exact old_cell _ (old_cell _ (new_cell2 _ _ _ _ _ _ (by simp) rfl))
  have p1 : Wn.cell? ⟨w.heap.size, 1, none⟩ = some (.bool n1) := by rw [hn0]; exact old_cell _ (old_cell _ (new_cell2 _ _ _ _ _ _ (by simp) rfl))
  have p2 : Wn.cell? ⟨w.heap.size, 2, none⟩ = some (.int .i64 m1) := by rw [hn0]; exact old_cell _ (old_cell _ (new_cell2 _ _ _ _ _ _ (by simp) rfl))
  have p3 : Wn.cell? ⟨w.heap.size, 3, none⟩ = some (.int .i64 e1) := by rw [hn0]; exact old_cell _ (old_cell _ (new_cell2 _ _ _ _ _ _ (by simp) rfl))
  have t0 : Wn.cell? ⟨w.heap.size + 1, 0, none⟩ = some (.int .i64 2) := by rw [hn0]; exact old_cell _ (new_cell2 _ _ _ _ _ _ (by simp) rfl)
  have t1 : Wn.cell? ⟨w.heap.size + 1, 1, none⟩ = some (.bool n2) := by rw [hn0]; exact old_cell _ (new_cell2 _ _ _ _ _ _ (by simp) rfl)
  have t2 : Wn.cell? ⟨w.heap.size + 1, 2, none⟩ = some (.int .i64 0) := by rw [hn0]; exact old_cell _ (new_cell2 _ _ _ _ _ _ (by simp) rfl)
  have t3 : Wn.cell? ⟨w.heap.size + 1, 3, none⟩ = some (.int .i64 0) := by rw [hn0]; exact old_cell _ (new_cell2 _ _ _ _ _ _ (by simp) rfl)
  obtain ⟨q0, q1, q2, q3, qf0, qf1, qf2, qf3⟩ := new4 hn0 (n := w.heap.size + 2) (by simp)
  have s0 : Wn.heap.size = w.heap.size + 3 := by rw [hn0]; exact by simp
  subst hn0
  have K := hide (k0)
  clear k0
  have S0 := hide s0
  clear s0
  go_enter Tryz.func60, Tryz.ntmps60
  have hne : (n1 != n2) = !(n1 == n2) := rfl
  have KF := hide ((((Kept.refl 0 0 w).alloc (.cells #[.int .i64 1, .bool n1, .int .i64 m1, .int .i64 e1] 24)).alloc (.cells #[.int .i64 2, .bool n2, .int .i64 0, .int .i64 0] 24)).alloc (.cells #[.int .i64 2, .bool (!(n1 == n2)), .int .i64 0, .int .i64 0] 24))
  clear K
  go_wp2_with fail
  exact bodyPost_ret (v := .tuple #[.agg #[.int .i64 2, .bool (!(n1 == n2)), .int .i64 0, .int .i64 0], .int .i64 0]) (by simp [results, Tryz.results60, go_sem, q0, q1, q2, q3]) rfl ⟨by rw [unhide FQ], unhide KF⟩

set_option maxHeartbeats 2000000 in
theorem mulS_num_nan (n1 : Bool) (m1 e1 : Int) (a11 : -1074 ≤ e1) (a21 : e1 ≤ 971) (a31 : 1 ≤ m1) (a41 : m1 ≤ 9007199254740991) (mode : Int) (hm0 : 0 ≤ mode) (hm4 : mode ≤ 4) (w : World) :
    Calls Tryz.prog 60 #[flv 1 n1 m1 e1, flv 3 false 0 0, .int .i64 mode] w fun e' w' => e' = .returned (.tuple #[flq (mulQ 1 n1 m1 e1 3 false 0 0 mode).1, .int .i64 (mulQ 1 n1 m1 e1 3 false 0 0 mode).2]) ∧ Kept 0 0 w w' := by
  obtain ⟨Q, hQ⟩ : ∃ q, mulQ 1 n1 m1 e1 3 false 0 0 mode = q := ⟨_, rfl⟩
  rw [hQ]
  have HQ := hide hQ
  clear hQ
  have FQ : Hid (Q = ((3, false, 0, 0), 0)) := by show _ = _; rw [← unhide HQ]; unfold mulQ; simp
  obtain ⟨Wn, hn0⟩ : ∃ wz, wz = (((w.alloc (.cells #[.int .i64 1, .bool n1, .int .i64 m1, .int .i64 e1] 24)).alloc (.cells #[.int .i64 3, .bool false, .int .i64 0, .int .i64 0] 24)).alloc (.cells #[.int .i64 0, .bool false, .int .i64 0, .int .i64 0] 24)) := ⟨_, rfl⟩
  have k0 : Kept 0 0 w Wn := by rw [hn0]; exact ((((Kept.refl 0 0 w).alloc _).alloc _).alloc _)
  have p0 : Wn.cell? ⟨w.heap.size, 0, none⟩ = some (.int .i64 1) := by rw [hn0]; exact old_cell _ (old_cell _ (new_cell2 _ _ _ _ _ _ (by simp) rfl))
  have p1 : Wn.cell? ⟨w.heap.size, 1, none⟩ = some (.bool n1) := by rw [hn0]; exact old_cell _ (old_cell _ (new_cell2 _ _ _ _ _ _ (by simp) rfl))
  have p2 : Wn.cell? ⟨w.heap.size, 2, none⟩ = some (.int .i64 m1) := by rw [hn0]; exact old_cell _ (old_cell _ (new_cell2 _ _ _ _ _ _ (by simp) rfl))
  have p3 : Wn.cell? ⟨w.heap.size, 3, none⟩ = some (.int .i64 e1) := by rw [hn0]; exact old_cell _ (old_cell _ (new_cell2 _ _ _ _ _ _ (by simp) rfl))
  have t0 : Wn.cell? ⟨w.heap.size + 1, 0, none⟩ = some (.int .i64 3) := by rw [hn0]; exact old_cell _ (new_cell2 _ _ _ _ _ _ (by simp) rfl)
  have t1 : Wn.cell? ⟨w.heap.size + 1, 1, none⟩ = some (.bool false) := by rw [hn0]; exact old_cell _ (new_cell2 _ _ _ _ _ _ (by simp) rfl)
  have t2 : Wn.cell? ⟨w.heap.size + 1, 2, none⟩ = some (.int .i64 0) := by rw [hn0]; exact old_cell _ (new_cell2 _ _ _ _ _ _ (by simp) rfl)
  have t3 : Wn.cell? ⟨w.heap.size + 1, 3, none⟩ = some (.int .i64 0) := by rw [hn0]; exact old_cell _ (new_cell2 _ _ _ _ _ _ (by simp) rfl)
  obtain ⟨q0, q1, q2, q3, qf0, qf1, qf2, qf3⟩ := new4 hn0 (n := w.heap.size + 2) (by simp)
  have s0 : Wn.heap.size = w.heap.size + 3 := by rw [hn0]; exact by simp
  subst hn0
  have K := hide (k0)
  clear k0
  have S0 := hide s0
  clear s0
  go_enter Tryz.func60, Tryz.ntmps60
  go_wp2_with fail
  generalize (((w.alloc (.cells #[.int .i64 1, .bool n1, .int .i64 m1, .int .i64 e1] 24)).alloc (.cells #[.int .i64 3, .bool false, .int .i64 0, .int .i64 0] 24)).alloc (.cells #[.int .i64 0, .bool false, .int .i64 0, .int .i64 0] 24)) = W at *
  refine (nan_kept _).mono ?_
  rintro e w1 ⟨rfl, k1⟩
  revert qf0 qf1 qf2 qf3; refine k1.l4 q0 q1 q2 q3 ?_; intro qf0 qf1 qf2 qf3
  revert p0 p1 p2 p3 t0 t1 t2 t3 q0 q1 q2 q3; refine k1.m12 ?_; intro p0 p1 p2 p3 t0 t1 t2 t3 q0 q1 q2 q3
  replace K := hide ((unhide K).trans k1)
  have z2 := k1.size
  clear k1
  have KF := hide (((((unhide K).setNew (p := ⟨w.heap.size + 2, 0, none⟩) (by simp) (.int .i64 3)).setNew (p := ⟨w.heap.size + 2, 1, none⟩) (by simp) (.bool false)).setNew (p := ⟨w.heap.size + 2, 2, none⟩) (by simp) (.int .i64 0)).setNew (p := ⟨w.heap.size + 2, 3, none⟩) (by simp) (.int .i64 0))
  clear K
  try go_wp2_with fail
  exact bodyPost_ret (v := .tuple #[.agg #[.int .i64 3, .bool false, .int .i64 0, .int .i64 0], .int .i64 0]) (by simp [results, Tryz.results60, go_sem, q0, q1, q2, q3]) rfl ⟨by rw [unhide FQ], unhide KF⟩

set_option maxHeartbeats 2000000 in
theorem mulS_nought_inf (n1 : Bool) (n2 : Bool) (mode : Int) (hm0 : 0 ≤ mode) (hm4 : mode ≤ 4) (w : World) :
    Calls Tryz.prog 60 #[flv 0 n1 0 0, flv 2 n2 0 0, .int .i64 mode] w fun e' w' => e' = .returned (.tuple #[flq (mulQ 0 n1 0 0 2 n2 0 0 mode).1, .int .i64 (mulQ 0 n1 0 0 2 n2 0 0 mode).2]) ∧ Kept 0 0 w w' := by
  obtain ⟨Q, hQ⟩ : ∃ q, mulQ 0 n1 0 0 2 n2 0 0 mode = q := ⟨_, rfl⟩
  rw [hQ]
  have HQ := hide hQ
  clear hQ
  have FQ : Hid (Q = ((3, false, 0, 0), 16)) := by show _ = _; rw [← unhide HQ]; unfold mulQ; simp
  obtain ⟨Wn, hn0⟩ : ∃ wz, wz = (((w.alloc (.cells #[.int .i64 0, .bool n1, .int .i64 0, .int .i64 0] 24)).alloc (.cells #[.int .i64 2, .bool n2, .int .i64 0, .int .i64 0] 24)).alloc (.cells #[.int .i64 0, .bool false, .int .i64 0, .int .i64 0] 24)) := ⟨_, rfl⟩
  have k0 : Kept 0 0 w Wn := by rw [hn0]; exact ((((Kept.refl 0 0 w).alloc _).alloc _).alloc _)
  have p0 : Wn.cell? ⟨w.heap.size, 0, none⟩ = some (.int .i64 0) := by rw [hn0]; exact old_cell _ (old_cell _ (new_cell2 _ _ _ _ _ _ (by simp) rfl))
  have p1 : Wn.cell? ⟨w.heap.size, 1, none⟩ = some (.bool n1) := by rw [hn0]; exact old_cell _ (old_cell _ (new_cell2 _ _ _ _ _ _ (by simp) rfl))
  have p2 : Wn.cell? ⟨w.heap.size, 2, none⟩ = some (.int .i64 0) := by rw [hn0]; exact old_cell _ (old_cell _ (new_cell2 _ _ _ _ _ _ (by simp) rfl))
  have p3 : Wn.cell? ⟨w.heap.size, 3, none⟩ = some (.int .i64 0) := by rw [hn0]; exact old_cell _ (old_cell _ (new_cell2 _ _ _ _ _ _ (by simp) rfl))
  have t0 : Wn.cell? ⟨w.heap.size + 1, 0, none⟩ = some (.int .i64 2) := by rw [hn0]; exact old_cell _ (new_cell2 _ _ _ _ _ _ (by simp) rfl)
  have t1 : Wn.cell? ⟨w.heap.size + 1, 1, none⟩ = some (.bool n2) := by rw [hn0]; exact old_cell _ (new_cell2 _ _ _ _ _ _ (by simp) rfl)
  have t2 : Wn.cell? ⟨w.heap.size + 1, 2, none⟩ = some (.int .i64 0) := by rw [hn0]; exact old_cell _ (new_cell2 _ _ _ _ _ _ (by simp) rfl)
  have t3 : Wn.cell? ⟨w.heap.size + 1, 3, none⟩ = some (.int .i64 0) := by rw [hn0]; exact old_cell _ (new_cell2 _ _ _ _ _ _ (by simp) rfl)
  obtain ⟨q0, q1, q2, q3, qf0, qf1, qf2, qf3⟩ := new4 hn0 (n := w.heap.size + 2) (by simp)
  have s0 : Wn.heap.size = w.heap.size + 3 := by rw [hn0]; exact by simp
  subst hn0
  have K := hide (k0)
  clear k0
  have S0 := hide s0
  clear s0
  go_enter Tryz.func60, Tryz.ntmps60
  go_wp2_with fail
  generalize (((w.alloc (.cells #[.int .i64 0, .bool n1, .int .i64 0, .int .i64 0] 24)).alloc (.cells #[.int .i64 2, .bool n2, .int .i64 0, .int .i64 0] 24)).alloc (.cells #[.int .i64 0, .bool false, .int .i64 0, .int .i64 0] 24)) = W at *
  refine (bad_spec _).mono ?_
  rintro e w1 ⟨rfl, k1⟩
  revert qf0 qf1 qf2 qf3; refine k1.l4 q0 q1 q2 q3 ?_; intro qf0 qf1 qf2 qf3
  revert p0 p1 p2 p3 t0 t1 t2 t3 q0 q1 q2 q3; refine k1.m12 ?_; intro p0 p1 p2 p3 t0 t1 t2 t3 q0 q1 q2 q3
  replace K := hide ((unhide K).trans k1)
  have z2 := k1.size
  clear k1
  have KF := hide (((((unhide K).setNew (p := ⟨w.heap.size + 2, 0, none⟩) (by simp) (.int .i64 3)).setNew (p := ⟨w.heap.size + 2, 1, none⟩) (by simp) (.bool false)).setNew (p := ⟨w.heap.size + 2, 2, none⟩) (by simp) (.int .i64 0)).setNew (p := ⟨w.heap.size + 2, 3, none⟩) (by simp) (.int .i64 0))
  clear K
  try go_wp2_with fail
  exact bodyPost_ret (v := .tuple #[.agg #[.int .i64 3, .bool false, .int .i64 0, .int .i64 0], .int .i64 16]) (by simp [results, Tryz.results60, go_sem, q0, q1, q2, q3]) rfl ⟨by rw [unhide FQ], unhide KF⟩

set_option maxHeartbeats 2000000 in
theorem mulS_nought_nan (n1 : Bool) (mode : Int) (hm0 : 0 ≤ mode) (hm4 : mode ≤ 4) (w : World) :
    Calls Tryz.prog 60 #[flv 0 n1 0 0, flv 3 false 0 0, .int .i64 mode] w fun e' w' => e' = .returned (.tuple #[flq (mulQ 0 n1 0 0 3 false 0 0 mode).1, .int .i64 (mulQ 0 n1 0 0 3 false 0 0 mode).2]) ∧ Kept 0 0 w w' := by
  obtain ⟨Q, hQ⟩ : ∃ q, mulQ 0 n1 0 0 3 false 0 0 mode = q := ⟨_, rfl⟩
  rw [hQ]
  have HQ := hide hQ
  clear hQ
  have FQ : Hid (Q = ((3, false, 0, 0), 0)) := by show _ = _; rw [← unhide HQ]; unfold mulQ; simp
  obtain ⟨Wn, hn0⟩ : ∃ wz, wz = (((w.alloc (.cells #[.int .i64 0, .bool n1, .int .i64 0, .int .i64 0] 24)).alloc (.cells #[.int .i64 3, .bool false, .int .i64 0, .int .i64 0] 24)).alloc (.cells #[.int .i64 0, .bool false, .int .i64 0, .int .i64 0] 24)) := ⟨_, rfl⟩
  have k0 : Kept 0 0 w Wn := by rw [hn0]; exact ((((Kept.refl 0 0 w).alloc _).alloc _).alloc _)
  have p0 : Wn.cell? ⟨w.heap.size, 0, none⟩ = some (.int .i64 0) := by rw [hn0]; exact old_cell _ (old_cell _ (new_cell2 _ _ _ _ _ _ (by simp) rfl))
  have p1 : Wn.cell? ⟨w.heap.size, 1, none⟩ = some (.bool n1) := by rw [hn0]; exact old_cell _ (old_cell _ (new_cell2 _ _ _ _ _ _ (by simp) rfl))
  have p2 : Wn.cell? ⟨w.heap.size, 2, none⟩ = some (.int .i64 0) := by rw [hn0]; exact old_cell _ (old_cell _ (new_cell2 _ _ _ _ _ _ (by simp) rfl))
  have p3 : Wn.cell? ⟨w.heap.size, 3, none⟩ = some (.int .i64 0) := by rw [hn0]; exact old_cell _ (old_cell _ (new_cell2 _ _ _ _ _ _ (by simp) rfl))
  have t0 : Wn.cell? ⟨w.heap.size + 1, 0, none⟩ = some (.int .i64 3) := by rw [hn0]; exact old_cell _ (new_cell2 _ _ _ _ _ _ (by simp) rfl)
  have t1 : Wn.cell? ⟨w.heap.size + 1, 1, none⟩ = some (.bool false) := by rw [hn0]; exact old_cell _ (new_cell2 _ _ _ _ _ _ (by simp) rfl)
  have t2 : Wn.cell? ⟨w.heap.size + 1, 2, none⟩ = some (.int .i64 0) := by rw [hn0]; exact old_cell _ (new_cell2 _ _ _ _ _ _ (by simp) rfl)
  have t3 : Wn.cell? ⟨w.heap.size + 1, 3, none⟩ = some (.int .i64 0) := by rw [hn0]; exact old_cell _ (new_cell2 _ _ _ _ _ _ (by simp) rfl)
  obtain ⟨q0, q1, q2, q3, qf0, qf1, qf2, qf3⟩ := new4 hn0 (n := w.heap.size + 2) (by simp)
  have s0 : Wn.heap.size = w.heap.size + 3 := by rw [hn0]; exact by simp
  subst hn0
  have K := hide (k0)
  clear k0
  have S0 := hide s0
  clear s0
  go_enter Tryz.func60, Tryz.ntmps60
  go_wp2_with fail
  generalize (((w.alloc (.cells #[.int .i64 0, .bool n1, .int .i64 0, .int .i64 0] 24)).alloc (.cells #[.int .i64 3, .bool false, .int .i64 0, .int .i64 0] 24)).alloc (.cells #[.int .i64 0, .bool false, .int .i64 0, .int .i64 0] 24)) = W at *
  refine (nan_kept _).mono ?_
  rintro e w1 ⟨rfl, k1⟩
  revert qf0 qf1 qf2 qf3; refine k1.l4 q0 q1 q2 q3 ?_; intro qf0 qf1 qf2 qf3
  revert p0 p1 p2 p3 t0 t1 t2 t3 q0 q1 q2 q3; refine k1.m12 ?_; intro p0 p1 p2 p3 t0 t1 t2 t3 q0 q1 q2 q3
  replace K := hide ((unhide K).trans k1)
  have z2 := k1.size
  clear k1
  have KF := hide (((((unhide K).setNew (p := ⟨w.heap.size + 2, 0, none⟩) (by simp) (.int .i64 3)).setNew (p := ⟨w.heap.size + 2, 1, none⟩) (by simp) (.bool false)).setNew (p := ⟨w.heap.size + 2, 2, none⟩) (by simp) (.int .i64 0)).setNew (p := ⟨w.heap.size + 2, 3, none⟩) (by simp) (.int .i64 0))
  clear K
  try go_wp2_with fail
  exact bodyPost_ret (v := .tuple #[.agg #[.int .i64 3, .bool false, .int .i64 0, .int .i64 0], .int .i64 0]) (by simp [results, Tryz.results60, go_sem, q0, q1, q2, q3]) rfl ⟨by rw [unhide FQ], unhide KF⟩

set_option maxHeartbeats 2000000 in
theorem mulS_inf_num (n1 : Bool) (n2 : Bool) (m2 e2 : Int) (a12 : -1074 ≤ e2) (a22 : e2 ≤ 971) (a32 : 1 ≤ m2) (a42 : m2 ≤ 9007199254740991) (mode : Int) (hm0 : 0 ≤ mode) (hm4 : mode ≤ 4) (w : World) :
    Calls Tryz.prog 60 #[flv 2 n1 0 0, flv 1 n2 m2 e2, .int .i64 mode] w fun e' w' => e' = .returned (.tuple #[flq (mulQ 2 n1 0 0 1 n2 m2 e2 mode).1, .int .i64 (mulQ 2 n1 0 0 1 n2 m2 e2 mode).2]) ∧ Kept 0 0 w w' := by
  obtain ⟨Q, hQ⟩ : ∃ q, mulQ 2 n1 0 0 1 n2 m2 e2 mode = q := ⟨_, rfl⟩
  rw [hQ]
  have HQ := hide hQ
  clear hQ
  have FQ : Hid (Q = ((2, !(n1 == n2), 0, 0), 0)) := by show _ = _; rw [← unhide HQ]; unfold mulQ; simp
  obtain ⟨Wn, hn0⟩ : ∃ wz, wz = (((w.alloc (.cells #[.int .i64 2, .bool n1, .int .i64 0, .int .i64 0] 24)).alloc (.cells #[.int .i64 1, .bool n2, .int .i64 m2, .int .i64 e2] 24)).alloc (.cells #[.int .i64 0, .bool false, .int .i64 0, .int .i64 0] 24)) := ⟨_, rfl⟩
  have k0 : Kept 0 0 w Wn := by rw [hn0]; exact ((((Kept.refl 0 0 w).alloc _).alloc _).alloc _)
  have p0 : Wn.cell? ⟨w.heap.size, 0, none⟩ = some (.int .i64 2) := by rw [hn0]; exact old_cell _ (old_cell _ (new_cell2 _ _ _ _ _ _ (by simp) rfl))
  have p1 : Wn.cell? ⟨w.heap.size, 1, none⟩ = some (.bool n1) := by rw [hn0]; exact old_cell _ (old_cell _ (new_cell2 _ _ _ _ _ _ (by simp) rfl))
  have p2 : Wn.cell? ⟨w.heap.size, 2, none⟩ = some (.int .i64 0) := by rw [hn0]; exact old_cell _ (old_cell _ (new_cell2 _ _ _ _ _ _ (by simp) rfl))
  have p3 : Wn.cell? ⟨w.heap.size, 3, none⟩ = some (.int .i64 0) := by rw [hn0]; exact old_cell _ (old_cell _ (new_cell2 _ _ _ _ _ _ (by simp) rfl))
  have t0 : Wn.cell? ⟨w.heap.size + 1, 0, none⟩ = some (.int .i64 1) := by rw [hn0]; exact old_cell _ (new_cell2 _ _ _ _ _ _ (by simp) rfl)
  have t1 : Wn.cell? ⟨w.heap.size + 1, 1, none⟩ = some (.bool n2) := by rw [hn0]; exact old_cell _ (new_cell2 _ _ _ _ _ _ (by simp) rfl)
  have t2 : Wn.cell? ⟨w.heap.size + 1, 2, none⟩ = some (.int .i64 m2) := by rw [hn0]; exact old_cell _ (new_cell2 _ _ _ _ _ _ (by simp) rfl)
  have t3 : Wn.cell? ⟨w.heap.size + 1, 3, none⟩ = some (.int .i64 e2) := by rw [hn0]; exact old_cell _ (new_cell2 _ _ _ _ _ _ (by simp) rfl)
  obtain ⟨q0, q1, q2, q3, qf0, qf1, qf2, qf3⟩ := new4 hn0 (n := w.heap.size + 2) (by simp)
  have s0 : Wn.heap.size = w.heap.size + 3 := by rw [hn0]; exact by simp
  subst hn0
  have K := hide (k0)
  clear k0
  have S0 := hide s0
  clear s0
  go_enter Tryz.func60, Tryz.ntmps60
  have hne : (n1 != n2) = !(n1 == n2) := rfl
  have KF := hide ((((Kept.refl 0 0 w).alloc (.cells #[.int .i64 2, .bool n1, .int .i64 0, .int .i64 0] 24)).alloc (.cells #[.int .i64 1, .bool n2, .int .i64 m2, .int .i64 e2] 24)).alloc (.cells #[.int .i64 2, .bool (!(n1 == n2)), .int .i64 0, .int .i64 0] 24))
  clear K
  go_wp2_with fail
  exact bodyPost_ret (v := .tuple #[.agg #[.int .i64 2, .bool (!(n1 == n2)), .int .i64 0, .int .i64 0], .int .i64 0]) (by simp [results, Tryz.results60, go_sem, q0, q1, q2, q3]) rfl ⟨by rw [unhide FQ], unhide KF⟩

set_option maxHeartbeats 2000000 in
theorem mulS_inf_nought (n1 : Bool) (n2 : Bool) (mode : Int) (hm0 : 0 ≤ mode) (hm4 : mode ≤ 4) (w : World) :
    Calls Tryz.prog 60 #[flv 2 n1 0 0, flv 0 n2 0 0, .int .i64 mode] w fun e' w' => e' = .returned (.tuple #[flq (mulQ 2 n1 0 0 0 n2 0 0 mode).1, .int .i64 (mulQ 2 n1 0 0 0 n2 0 0 mode).2]) ∧ Kept 0 0 w w' := by
  obtain ⟨Q, hQ⟩ : ∃ q, mulQ 2 n1 0 0 0 n2 0 0 mode = q := ⟨_, rfl⟩
  rw [hQ]
  have HQ := hide hQ
  clear hQ
  have FQ : Hid (Q = ((3, false, 0, 0), 16)) := by show _ = _; rw [← unhide HQ]; unfold mulQ; simp
  obtain ⟨Wn, hn0⟩ : ∃ wz, wz = (((w.alloc (.cells #[.int .i64 2, .bool n1, .int .i64 0, .int .i64 0] 24)).alloc (.cells #[.int .i64 0, .bool n2, .int .i64 0, .int .i64 0] 24)).alloc (.cells #[.int .i64 0, .bool false, .int .i64 0, .int .i64 0] 24)) := ⟨_, rfl⟩
  have k0 : Kept 0 0 w Wn := by rw [hn0]; exact ((((Kept.refl 0 0 w).alloc _).alloc _).alloc _)
  have p0 : Wn.cell? ⟨w.heap.size, 0, none⟩ = some (.int .i64 2) := by rw [hn0]; exact old_cell _ (old_cell _ (new_cell2 _ _ _ _ _ _ (by simp) rfl))
  have p1 : Wn.cell? ⟨w.heap.size, 1, none⟩ = some (.bool n1) := by rw [hn0]; exact old_cell _ (old_cell _ (new_cell2 _ _ _ _ _ _ (by simp) rfl))
  have p2 : Wn.cell? ⟨w.heap.size, 2, none⟩ = some (.int .i64 0) := by rw [hn0]; exact old_cell _ (old_cell _ (new_cell2 _ _ _ _ _ _ (by simp) rfl))
  have p3 : Wn.cell? ⟨w.heap.size, 3, none⟩ = some (.int .i64 0) := by rw [hn0]; exact old_cell _ (old_cell _ (new_cell2 _ _ _ _ _ _ (by simp) rfl))
  have t0 : Wn.cell? ⟨w.heap.size + 1, 0, none⟩ = some (.int .i64 0) := by rw [hn0]; exact old_cell _ (new_cell2 _ _ _ _ _ _ (by simp) rfl)
  have t1 : Wn.cell? ⟨w.heap.size + 1, 1, none⟩ = some (.bool n2) := by rw [hn0]; exact old_cell _ (new_cell2 _ _ _ _ _ _ (by simp) rfl)
  have t2 : Wn.cell? ⟨w.heap.size + 1, 2, none⟩ = some (.int .i64 0) := by rw [hn0]; exact old_cell _ (new_cell2 _ _ _ _ _ _ (by simp) rfl)
  have t3 : Wn.cell? ⟨w.heap.size + 1, 3, none⟩ = some (.int .i64 0) := by rw [hn0]; exact old_cell _ (new_cell2 _ _ _ _ _ _ (by simp) rfl)
  obtain ⟨q0, q1, q2, q3, qf0, qf1, qf2, qf3⟩ := new4 hn0 (n := w.heap.size + 2) (by simp)
  have s0 : Wn.heap.size = w.heap.size + 3 := by rw [hn0]; exact by simp
  subst hn0
  have K := hide (k0)
  clear k0
  have S0 := hide s0
  clear s0
  go_enter Tryz.func60, Tryz.ntmps60
  go_wp2_with fail
  generalize (((w.alloc (.cells #[.int .i64 2, .bool n1, .int .i64 0, .int .i64 0] 24)).alloc (.cells #[.int .i64 0, .bool n2, .int .i64 0, .int .i64 0] 24)).alloc (.cells #[.int .i64 0, .bool false, .int .i64 0, .int .i64 0] 24)) = W at *
  refine (bad_spec _).mono ?_
  rintro e w1 ⟨rfl, k1⟩
  revert qf0 qf1 qf2 qf3; refine k1.l4 q0 q1 q2 q3 ?_; intro qf0 qf1 qf2 qf3
  revert p0 p1 p2 p3 t0 t1 t2 t3 q0 q1 q2 q3; refine k1.m12 ?_; intro p0 p1 p2 p3 t0 t1 t2 t3 q0 q1 q2 q3
  replace K := hide ((unhide K).trans k1)
  have z2 := k1.size
  clear k1
  have KF := hide (((((unhide K).setNew (p := ⟨w.heap.size + 2, 0, none⟩) (by simp) (.int .i64 3)).setNew (p := ⟨w.heap.size + 2, 1, none⟩) (by simp) (.bool false)).setNew (p := ⟨w.heap.size + 2, 2, none⟩) (by simp) (.int .i64 0)).setNew (p := ⟨w.heap.size + 2, 3, none⟩) (by simp) (.int .i64 0))
  clear K
  try go_wp2_with fail
  exact bodyPost_ret (v := .tuple #[.agg #[.int .i64 3, .bool false, .int .i64 0, .int .i64 0], .int .i64 16]) (by simp [results, Tryz.results60, go_sem, q0, q1, q2, q3]) rfl ⟨by rw [unhide FQ], unhide KF⟩

set_option maxHeartbeats 2000000 in
theorem mulS_inf_inf (n1 : Bool) (n2 : Bool) (mode : Int) (hm0 : 0 ≤ mode) (hm4 : mode ≤ 4) (w : World) :
    Calls Tryz.prog 60 #[flv 2 n1 0 0, flv 2 n2 0 0, .int .i64 mode] w fun e' w' => e' = .returned (.tuple #[flq (mulQ 2 n1 0 0 2 n2 0 0 mode).1, .int .i64 (mulQ 2 n1 0 0 2 n2 0 0 mode).2]) ∧ Kept 0 0 w w' := by
  obtain ⟨Q, hQ⟩ : ∃ q, mulQ 2 n1 0 0 2 n2 0 0 mode = q := ⟨_, rfl⟩
  rw [hQ]
  have HQ := hide hQ
  clear hQ
  have FQ : Hid (Q = ((2, !(n1 == n2), 0, 0), 0)) := by show _ = _; rw [← unhide HQ]; unfold mulQ; simp
  obtain ⟨Wn, hn0⟩ : ∃ wz, wz = (((w.alloc (.cells #[.int .i64 2, .bool n1, .int .i64 0, .int .i64 0] 24)).alloc (.cells #[.int .i64 2, .bool n2, .int .i64 0, .int .i64 0] 24)).alloc (.cells #[.int .i64 0, .bool false, .int .i64 0, .int .i64 0] 24)) := ⟨_, rfl⟩
  have k0 : Kept 0 0 w Wn := by rw [hn0]; exact ((((Kept.refl 0 0 w).alloc _).alloc _).alloc _)
  have p0 : Wn.cell? ⟨w.heap.size, 0, none⟩ = some (.int .i64 2) := by rw [hn0]; exact old_cell _ (old_cell _ (new_cell2 _ _ _ _ _ _ (by simp) rfl))
  have p1 : Wn.cell? ⟨w.heap.size, 1, none⟩ = some (.bool n1) := by rw [hn0]; exact old_cell _ (old_cell _ (new_cell2 _ _ _ _ _ _ (by simp) rfl))
  have p2 : Wn.cell? ⟨w.heap.size, 2, none⟩ = some (.int .i64 0) := by rw [hn0]; exact old_cell _ (old_cell _ (new_cell2 _ _ _ _ _ _ (by simp) rfl))
  have p3 : Wn.cell? ⟨w.heap.size, 3, none⟩ = some (.int .i64 0) := by rw [hn0]; exact old_cell _ (old_cell _ (new_cell2 _ _ _ _ _ _ (by simp) rfl))
  have t0 : Wn.cell? ⟨w.heap.size + 1, 0, none⟩ = some (.int .i64 2) := by rw [hn0]; exact old_cell _ (new_cell2 _ _ _ _ _ _ (by simp) rfl)
  have t1 : Wn.cell? ⟨w.heap.size + 1, 1, none⟩ = some (.bool n2) := by rw [hn0]; exact old_cell _ (new_cell2 _ _ _ _ _ _ (by simp) rfl)
  have t2 : Wn.cell? ⟨w.heap.size + 1, 2, none⟩ = some (.int .i64 0) := by rw [hn0]; exact old_cell _ (new_cell2 _ _ _ _ _ _ (by simp) rfl)
  have t3 : Wn.cell? ⟨w.heap.size + 1, 3, none⟩ = some (.int .i64 0) := by rw [hn0]; exact old_cell _ (new_cell2 _ _ _ _ _ _ (by simp) rfl)
  obtain ⟨q0, q1, q2, q3, qf0, qf1, qf2, qf3⟩ := new4 hn0 (n := w.heap.size + 2) (by simp)
  have s0 : Wn.heap.size = w.heap.size + 3 := by rw [hn0]; exact by simp
  subst hn0
  have K := hide (k0)
  clear k0
  have S0 := hide s0
  clear s0
  go_enter Tryz.func60, Tryz.ntmps60
  have hne : (n1 != n2) = !(n1 == n2) := rfl
  have KF := hide ((((Kept.refl 0 0 w).alloc (.cells #[.int .i64 2, .bool n1, .int .i64 0, .int .i64 0] 24)).alloc (.cells #[.int .i64 2, .bool n2, .int .i64 0, .int .i64 0] 24)).alloc (.cells #[.int .i64 2, .bool (!(n1 == n2)), .int .i64 0, .int .i64 0] 24))
  clear K
  go_wp2_with fail
  exact bodyPost_ret (v := .tuple #[.agg #[.int .i64 2, .bool (!(n1 == n2)), .int .i64 0, .int .i64 0], .int .i64 0]) (by simp [results, Tryz.results60, go_sem, q0, q1, q2, q3]) rfl ⟨by rw [unhide FQ], unhide KF⟩

set_option maxHeartbeats 2000000 in
theorem mulS_inf_nan (n1 : Bool) (mode : Int) (hm0 : 0 ≤ mode) (hm4 : mode ≤ 4) (w : World) :
    Calls Tryz.prog 60 #[flv 2 n1 0 0, flv 3 false 0 0, .int .i64 mode] w fun e' w' => e' = .returned (.tuple #[flq (mulQ 2 n1 0 0 3 false 0 0 mode).1, .int .i64 (mulQ 2 n1 0 0 3 false 0 0 mode).2]) ∧ Kept 0 0 w w' := by
  obtain ⟨Q, hQ⟩ : ∃ q, mulQ 2 n1 0 0 3 false 0 0 mode = q := ⟨_, rfl⟩
  rw [hQ]
  have HQ := hide hQ
  clear hQ
  have FQ : Hid (Q = ((3, false, 0, 0), 0)) := by show _ = _; rw [← unhide HQ]; unfold mulQ; simp
  obtain ⟨Wn, hn0⟩ : ∃ wz, wz = (((w.alloc (.cells #[.int .i64 2, .bool n1, .int .i64 0, .int .i64 0] 24)).alloc (.cells #[.int .i64 3, .bool false, .int .i64 0, .int .i64 0] 24)).alloc (.cells #[.int .i64 0, .bool false, .int .i64 0, .int .i64 0] 24)) := ⟨_, rfl⟩
  have k0 : Kept 0 0 w Wn := by rw [hn0]; exact ((((Kept.refl 0 0 w).alloc _).alloc _).alloc _)
  have p0 : Wn.cell? ⟨w.heap.size, 0, none⟩ = some (.int .i64 2) := by rw [hn0]; exact old_cell _ (old_cell _ (new_cell2 _ _ _ _ _ _ (by simp) rfl))
  have p1 : Wn.cell? ⟨w.heap.size, 1, none⟩ = some (.bool n1) := by rw [hn0]; exact old_cell _ (old_cell _ (new_cell2 _ _ _ _ _ _ (by simp) rfl))
  have p2 : Wn.cell? ⟨w.heap.size, 2, none⟩ = some (.int .i64 0) := by rw [hn0]; exact old_cell _ (old_cell _ (new_cell2 _ _ _ _ _ _ (by simp) rfl))
  have p3 : Wn.cell? ⟨w.heap.size, 3, none⟩ = some (.int .i64 0) := by rw [hn0]; exact old_cell _ (old_cell _ (new_cell2 _ _ _ _ _ _ (by simp) rfl))
  have t0 : Wn.cell? ⟨w.heap.size + 1, 0, none⟩ = some (.int .i64 3) := by rw [hn0]; exact old_cell _ (new_cell2 _ _ _ _ _ _ (by simp) rfl)
  have t1 : Wn.cell? ⟨w.heap.size + 1, 1, none⟩ = some (.bool false) := by rw [hn0]; exact old_cell _ (new_cell2 _ _ _ _ _ _ (by simp) rfl)
  have t2 : Wn.cell? ⟨w.heap.size + 1, 2, none⟩ = some (.int .i64 0) := by rw [hn0]; exact old_cell _ (new_cell2 _ _ _ _ _ _ (by simp) rfl)
  have t3 : Wn.cell? ⟨w.heap.size + 1, 3, none⟩ = some (.int .i64 0) := by rw [hn0]; exact old_cell _ (new_cell2 _ _ _ _ _ _ (by simp) rfl)
  obtain ⟨q0, q1, q2, q3, qf0, qf1, qf2, qf3⟩ := new4 hn0 (n := w.heap.size + 2) (by simp)
  have s0 : Wn.heap.size = w.heap.size + 3 := by rw [hn0]; exact by simp
  subst hn0
  have K := hide (k0)
  clear k0
  have S0 := hide s0
  clear s0
  go_enter Tryz.func60, Tryz.ntmps60
  go_wp2_with fail
  generalize (((w.alloc (.cells #[.int .i64 2, .bool n1, .int .i64 0, .int .i64 0] 24)).alloc (.cells #[.int .i64 3, .bool false, .int .i64 0, .int .i64 0] 24)).alloc (.cells #[.int .i64 0, .bool false, .int .i64 0, .int .i64 0] 24)) = W at *
  refine (nan_kept _).mono ?_
  rintro e w1 ⟨rfl, k1⟩
  revert qf0 qf1 qf2 qf3; refine k1.l4 q0 q1 q2 q3 ?_; intro qf0 qf1 qf2 qf3
  revert p0 p1 p2 p3 t0 t1 t2 t3 q0 q1 q2 q3; refine k1.m12 ?_; intro p0 p1 p2 p3 t0 t1 t2 t3 q0 q1 q2 q3
  replace K := hide ((unhide K).trans k1)
  have z2 := k1.size
  clear k1
  have KF := hide (((((unhide K).setNew (p := ⟨w.heap.size + 2, 0, none⟩) (by simp) (.int .i64 3)).setNew (p := ⟨w.heap.size + 2, 1, none⟩) (by simp) (.bool false)).setNew (p := ⟨w.heap.size + 2, 2, none⟩) (by simp) (.int .i64 0)).setNew (p := ⟨w.heap.size + 2, 3, none⟩) (by simp) (.int .i64 0))
  clear K
  try go_wp2_with fail
  exact bodyPost_ret (v := .tuple #[.agg #[.int .i64 3, .bool false, .int .i64 0, .int .i64 0], .int .i64 0]) (by simp [results, Tryz.results60, go_sem, q0, q1, q2, q3]) rfl ⟨by rw [unhide FQ], unhide KF⟩

set_option maxHeartbeats 2000000 in
theorem mulS_nan_num (n2 : Bool) (m2 e2 : Int) (a12 : -1074 ≤ e2) (a22 : e2 ≤ 971) (a32 : 1 ≤ m2) (a42 : m2 ≤ 9007199254740991) (mode : Int) (hm0 : 0 ≤ mode) (hm4 : mode ≤ 4) (w : World) :
    Calls Tryz.prog 60 #[flv 3 false 0 0, flv 1 n2 m2 e2, .int .i64 mode] w fun e' w' => e' = .returned (.tuple #[flq (mulQ 3 false 0 0 1 n2 m2 e2 mode).1, .int .i64 (mulQ 3 false 0 0 1 n2 m2 e2 mode).2]) ∧ Kept 0 0 w w' := by
  obtain ⟨Q, hQ⟩ : ∃ q, mulQ 3 false 0 0 1 n2 m2 e2 mode = q := ⟨_, rfl⟩
  rw [hQ]
  have HQ := hide hQ
  clear hQ
  have FQ : Hid (Q = ((3, false, 0, 0), 0)) := by show _ = _; rw [← unhide HQ]; unfold mulQ; simp
  obtain ⟨Wn, hn0⟩ : ∃ wz, wz = (((w.alloc (.cells #[.int .i64 3, .bool false, .int .i64 0, .int .i64 0] 24)).alloc (.cells #[.int .i64 1, .bool n2, .int .i64 m2, .int .i64 e2] 24)).alloc (.cells #[.int .i64 0, .bool false, .int .i64 0, .int .i64 0] 24)) := ⟨_, rfl⟩
  have k0 : Kept 0 0 w Wn := by rw [hn0]; exact ((((Kept.refl 0 0 w).alloc _).alloc _).alloc _)
  have p0 : Wn.cell? ⟨w.heap.size, 0, none⟩ = some (.int .i64 3) := by rw [hn0]; exact old_cell _ (old_cell _ (new_cell2 _ _ _ _ _ _ (by simp) rfl))
  have p1 : Wn.cell? ⟨w.heap.size, 1, none⟩ = some (.bool false) := by rw [hn0]; exact old_cell _ (old_cell _ (new_cell2 _ _ _ _ _ _ (by simp) rfl))
  have p2 : Wn.cell? ⟨w.heap.size, 2, none⟩ = some (.int .i64 0) := by rw [hn0]; exact old_cell _ (old_cell _ (new_cell2 _ _ _ _ _ _ (by simp) rfl))
  have p3 : Wn.cell? ⟨w.heap.size, 3, none⟩ = some (.int .i64 0) := by rw [hn0]; exact old_cell _ (old_cell _ (new_cell2 _ _ _ _ _ _ (by simp) rfl))
  have t0 : Wn.cell? ⟨w.heap.size + 1, 0, none⟩ = some (.int .i64 1) := by rw [hn0]; exact old_cell _ (new_cell2 _ _ _ _ _ _ (by simp) rfl)
  have t1 : Wn.cell? ⟨w.heap.size + 1, 1, none⟩ = some (.bool n2) := by rw [hn0]; exact old_cell _ (new_cell2 _ _ _ _ _ _ (by simp) rfl)
  have t2 : Wn.cell? ⟨w.heap.size + 1, 2, none⟩ = some (.int .i64 m2) := by rw [hn0]; exact old_cell _ (new_cell2 _ _ _ _ _ _ (by simp) rfl)
  have t3 : Wn.cell? ⟨w.heap.size + 1, 3, none⟩ = some (.int .i64 e2) := by rw [hn0]; exact old_cell _ (new_cell2 _ _ _ _ _ _ (by simp) rfl)
  obtain ⟨q0, q1, q2, q3, qf0, qf1, qf2, qf3⟩ := new4 hn0 (n := w.heap.size + 2) (by simp)
  have s0 : Wn.heap.size = w.heap.size + 3 := by rw [hn0]; exact by simp
  subst hn0
  have K := hide (k0)
  clear k0
  have S0 := hide s0
  clear s0
  go_enter Tryz.func60, Tryz.ntmps60
  go_wp2_with fail
  generalize (((w.alloc (.cells #[.int .i64 3, .bool false, .int .i64 0, .int .i64 0] 24)).alloc (.cells #[.int .i64 1, .bool n2, .int .i64 m2, .int .i64 e2] 24)).alloc (.cells #[.int .i64 0, .bool false, .int .i64 0, .int .i64 0] 24)) = W at *
  refine (nan_kept _).mono ?_
  rintro e w1 ⟨rfl, k1⟩
  revert qf0 qf1 qf2 qf3; refine k1.l4 q0 q1 q2 q3 ?_; intro qf0 qf1 qf2 qf3
  revert p0 p1 p2 p3 t0 t1 t2 t3 q0 q1 q2 q3; refine k1.m12 ?_; intro p0 p1 p2 p3 t0 t1 t2 t3 q0 q1 q2 q3
  replace K := hide ((unhide K).trans k1)
  have z2 := k1.size
  clear k1
  have KF := hide (((((unhide K).setNew (p := ⟨w.heap.size + 2, 0, none⟩) (by simp) (.int .i64 3)).setNew (p := ⟨w.heap.size + 2, 1, none⟩) (by simp) (.bool false)).setNew (p := ⟨w.heap.size + 2, 2, none⟩) (by simp) (.int .i64 0)).setNew (p := ⟨w.heap.size + 2, 3, none⟩) (by simp) (.int .i64 0))
  clear K
  try go_wp2_with fail
  exact bodyPost_ret (v := .tuple #[.agg #[.int .i64 3, .bool false, .int .i64 0, .int .i64 0], .int .i64 0]) (by simp [results, Tryz.results60, go_sem, q0, q1, q2, q3]) rfl ⟨by rw [unhide FQ], unhide KF⟩

set_option maxHeartbeats 2000000 in
theorem mulS_nan_nought (n2 : Bool) (mode : Int) (hm0 : 0 ≤ mode) (hm4 : mode ≤ 4) (w : World) :
    Calls Tryz.prog 60 #[flv 3 false 0 0, flv 0 n2 0 0, .int .i64 mode] w fun e' w' => e' = .returned (.tuple #[flq (mulQ 3 false 0 0 0 n2 0 0 mode).1, .int .i64 (mulQ 3 false 0 0 0 n2 0 0 mode).2]) ∧ Kept 0 0 w w' := by
  obtain ⟨Q, hQ⟩ : ∃ q, mulQ 3 false 0 0 0 n2 0 0 mode = q := ⟨_, rfl⟩
  rw [hQ]
  have HQ := hide hQ
  clear hQ
  have FQ : Hid (Q = ((3, false, 0, 0), 0)) := by show _ = _; rw [← unhide HQ]; unfold mulQ; simp
  obtain ⟨Wn, hn0⟩ : ∃ wz, wz = (((w.alloc (.cells #[.int .i64 3, .bool false, .int .i64 0, .int .i64 0] 24)).alloc (.cells #[.int .i64 0, .bool n2, .int .i64 0, .int .i64 0] 24)).alloc (.cells #[.int .i64 0, .bool false, .int .i64 0, .int .i64 0] 24)) := ⟨_, rfl⟩
  have k0 : Kept 0 0 w Wn := by rw [hn0]; exact ((((Kept.refl 0 0 w).alloc _).alloc _).alloc _)
  have p0 : Wn.cell? ⟨w.heap.size, 0, none⟩ = some (.int .i64 3) := by rw [hn0]; exact old_cell _ (old_cell _ (new_cell2 _ _ _ _ _ _ (by simp) rfl))
  have p1 : Wn.cell? ⟨w.heap.size, 1, none⟩ = some (.bool false) := by rw [hn0]; exact old_cell _ (old_cell _ (new_cell2 _ _ _ _ _ _ (by simp) rfl))
  have p2 : Wn.cell? ⟨w.heap.size, 2, none⟩ = some (.int .i64 0) := by rw [hn0]; exact old_cell _ (old_cell _ (new_cell2 _ _ _ _ _ _ (by simp) rfl))
  have p3 : Wn.cell? ⟨w.heap.size, 3, none⟩ = some (.int .i64 0) := by rw [hn0]; exact old_cell _ (old_cell _ (new_cell2 _ _ _ _ _ _ (by simp) rfl))
  have t0 : Wn.cell? ⟨w.heap.size + 1, 0, none⟩ = some (.int .i64 0) := by rw [hn0]; exact old_cell _ (new_cell2 _ _ _ _ _ _ (by simp) rfl)
  have t1 : Wn.cell? ⟨w.heap.size + 1, 1, none⟩ = some (.bool n2) := by rw [hn0]; exact old_cell _ (new_cell2 _ _ _ _ _ _ (by simp) rfl)
  have t2 : Wn.cell? ⟨w.heap.size + 1, 2, none⟩ = some (.int .i64 0) := by rw [hn0]; exact old_cell _ (new_cell2 _ _ _ _ _ _ (by simp) rfl)
  have t3 : Wn.cell? ⟨w.heap.size + 1, 3, none⟩ = some (.int .i64 0) := by rw [hn0]; exact old_cell _ (new_cell2 _ _ _ _ _ _ (by simp) rfl)
  obtain ⟨q0, q1, q2, q3, qf0, qf1, qf2, qf3⟩ := new4 hn0 (n := w.heap.size + 2) (by simp)
  have s0 : Wn.heap.size = w.heap.size + 3 := by rw [hn0]; exact by simp
  subst hn0
  have K := hide (k0)
  clear k0
  have S0 := hide s0
  clear s0
  go_enter Tryz.func60, Tryz.ntmps60
  go_wp2_with fail
  generalize (((w.alloc (.cells #[.int .i64 3, .bool false, .int .i64 0, .int .i64 0] 24)).alloc (.cells #[.int .i64 0, .bool n2, .int .i64 0, .int .i64 0] 24)).alloc (.cells #[.int .i64 0, .bool false, .int .i64 0, .int .i64 0] 24)) = W at *
  refine (nan_kept _).mono ?_
  rintro e w1 ⟨rfl, k1⟩
  revert qf0 qf1 qf2 qf3; refine k1.l4 q0 q1 q2 q3 ?_; intro qf0 qf1 qf2 qf3
  revert p0 p1 p2 p3 t0 t1 t2 t3 q0 q1 q2 q3; refine k1.m12 ?_; intro p0 p1 p2 p3 t0 t1 t2 t3 q0 q1 q2 q3
  replace K := hide ((unhide K).trans k1)
  have z2 := k1.size
  clear k1
  have KF := hide (((((unhide K).setNew (p := ⟨w.heap.size + 2, 0, none⟩) (by simp) (.int .i64 3)).setNew (p := ⟨w.heap.size + 2, 1, none⟩) (by simp) (.bool false)).setNew (p := ⟨w.heap.size + 2, 2, none⟩) (by simp) (.int .i64 0)).setNew (p := ⟨w.heap.size + 2, 3, none⟩) (by simp) (.int .i64 0))
  clear K
  try go_wp2_with fail
  exact bodyPost_ret (v := .tuple #[.agg #[.int .i64 3, .bool false, .int .i64 0, .int .i64 0], .int .i64 0]) (by simp [results, Tryz.results60, go_sem, q0, q1, q2, q3]) rfl ⟨by rw [unhide FQ], unhide KF⟩

set_option maxHeartbeats 2000000 in
theorem mulS_nan_inf (n2 : Bool) (mode : Int) (hm0 : 0 ≤ mode) (hm4 : mode ≤ 4) (w : World) :
    Calls Tryz.prog 60 #[flv 3 false 0 0, flv 2 n2 0 0, .int .i64 mode] w fun e' w' => e' = .returned (.tuple #[flq (mulQ 3 false 0 0 2 n2 0 0 mode).1, .int .i64 (mulQ 3 false 0 0 2 n2 0 0 mode).2]) ∧ Kept 0 0 w w' := by
  obtain ⟨Q, hQ⟩ : ∃ q, mulQ 3 false 0 0 2 n2 0 0 mode = q := ⟨_, rfl⟩
  rw [hQ]
  have HQ := hide hQ
  clear hQ
  have FQ : Hid (Q = ((3, false, 0, 0), 0)) := by show _ = _; rw [← unhide HQ]; unfold mulQ; simp
  obtain ⟨Wn, hn0⟩ : ∃ wz, wz = (((w.alloc (.cells #[.int .i64 3, .bool false, .int .i64 0, .int .i64 0] 24)).alloc (.cells #[.int .i64 2, .bool n2, .int .i64 0, .int .i64 0] 24)).alloc (.cells #[.int .i64 0, .bool false, .int .i64 0, .int .i64 0] 24)) := ⟨_, rfl⟩
  have k0 : Kept 0 0 w Wn := by rw [hn0]; exact ((((Kept.refl 0 0 w).alloc _).alloc _).alloc _)
  have p0 : Wn.cell? ⟨w.heap.size, 0, none⟩ = some (.int .i64 3) := by rw [hn0]; exact old_cell _ (old_cell _ (new_cell2 _ _ _ _ _ _ (by simp) rfl))
  have p1 : Wn.cell? ⟨w.heap.size, 1, none⟩ = some (.bool false) := by rw [hn0]; exact old_cell _ (old_cell _ (new_cell2 _ _ _ _ _ _ (by simp) rfl))
  have p2 : Wn.cell? ⟨w.heap.size, 2, none⟩ = some (.int .i64 0) := by rw [hn0]; exact old_cell _ (old_cell _ (new_cell2 _ _ _ _ _ _ (by simp) rfl))
  have p3 : Wn.cell? ⟨w.heap.size, 3, none⟩ = some (.int .i64 0) := by rw [hn0]; exact old_cell _ (old_cell _ (new_cell2 _ _ _ _ _ _ (by simp) rfl))
  have t0 : Wn.cell? ⟨w.heap.size + 1, 0, none⟩ = some (.int .i64 2) := by rw [hn0]; exact old_cell _ (new_cell2 _ _ _ _ _ _ (by simp) rfl)
  have t1 : Wn.cell? ⟨w.heap.size + 1, 1, none⟩ = some (.bool n2) := by rw [hn0]; exact old_cell _ (new_cell2 _ _ _ _ _ _ (by simp) rfl)
  have t2 : Wn.cell? ⟨w.heap.size + 1, 2, none⟩ = some (.int .i64 0) := by rw [hn0]; exact old_cell _ (new_cell2 _ _ _ _ _ _ (by simp) rfl)
  have t3 : Wn.cell? ⟨w.heap.size + 1, 3, none⟩ = some (.int .i64 0) := by rw [hn0]; exact old_cell _ (new_cell2 _ _ _ _ _ _ (by simp) rfl)
  obtain ⟨q0, q1, q2, q3, qf0, qf1, qf2, qf3⟩ := new4 hn0 (n := w.heap.size + 2) (by simp)
  have s0 : Wn.heap.size = w.heap.size + 3 := by rw [hn0]; exact by simp
  subst hn0
  have K := hide (k0)
  clear k0
  have S0 := hide s0
  clear s0
  go_enter Tryz.func60, Tryz.ntmps60
  go_wp2_with fail
  generalize (((w.alloc (.cells #[.int .i64 3, .bool false, .int .i64 0, .int .i64 0] 24)).alloc (.cells #[.int .i64 2, .bool n2, .int .i64 0, .int .i64 0] 24)).alloc (.cells #[.int .i64 0, .bool false, .int .i64 0, .int .i64 0] 24)) = W at *
  refine (nan_kept _).mono ?_
  rintro e w1 ⟨rfl, k1⟩
  revert qf0 qf1 qf2 qf3; refine k1.l4 q0 q1 q2 q3 ?_; intro qf0 qf1 qf2 qf3
  revert p0 p1 p2 p3 t0 t1 t2 t3 q0 q1 q2 q3; refine k1.m12 ?_; intro p0 p1 p2 p3 t0 t1 t2 t3 q0 q1 q2 q3
  replace K := hide ((unhide K).trans k1)
  have z2 := k1.size
  clear k1
  have KF := hide (((((unhide K).setNew (p := ⟨w.heap.size + 2, 0, none⟩) (by simp) (.int .i64 3)).setNew (p := ⟨w.heap.size + 2, 1, none⟩) (by simp) (.bool false)).setNew (p := ⟨w.heap.size + 2, 2, none⟩) (by simp) (.int .i64 0)).setNew (p := ⟨w.heap.size + 2, 3, none⟩) (by simp) (.int .i64 0))
  clear K
  try go_wp2_with fail
  exact bodyPost_ret (v := .tuple #[.agg #[.int .i64 3, .bool false, .int .i64 0, .int .i64 0], .int .i64 0]) (by simp [results, Tryz.results60, go_sem, q0, q1, q2, q3]) rfl ⟨by rw [unhide FQ], unhide KF⟩

set_option maxHeartbeats 2000000 in
theorem mulS_nan_nan (mode : Int) (hm0 : 0 ≤ mode) (hm4 : mode ≤ 4) (w : World) :
    Calls Tryz.prog 60 #[flv 3 false 0 0, flv 3 false 0 0, .int .i64 mode] w fun e' w' => e' = .returned (.tuple #[flq (mulQ 3 false 0 0 3 false 0 0 mode).1, .int .i64 (mulQ 3 false 0 0 3 false 0 0 mode).2]) ∧ Kept 0 0 w w' := by
  obtain ⟨Q, hQ⟩ : ∃ q, mulQ 3 false 0 0 3 false 0 0 mode = q := ⟨_, rfl⟩
  rw [hQ]
  have HQ := hide hQ
  clear hQ
  have FQ : Hid (Q = ((3, false, 0, 0), 0)) := by show _ = _; rw [← unhide HQ]; unfold mulQ; simp
  obtain ⟨Wn, hn0⟩ : ∃ wz, wz = (((w.alloc (.cells #[.int .i64 3, .bool false, .int .i64 0, .int .i64 0] 24)).alloc (.cells #[.int .i64 3, .bool false, .int .i64 0, .int .i64 0] 24)).alloc (.cells #[.int .i64 0, .bool false, .int .i64 0, .int .i64 0] 24)) := ⟨_, rfl⟩
  have k0 : Kept 0 0 w Wn := by rw [hn0]; exact ((((Kept.refl 0 0 w).alloc _).alloc _).alloc _)
  have p0 : Wn.cell? ⟨w.heap.size, 0, none⟩ = some (.int .i64 3) := by rw [hn0]; exact old_cell _ (old_cell _ (new_cell2 _ _ _ _ _ _ (by simp) rfl))
  have p1 : Wn.cell? ⟨w.heap.size, 1, none⟩ = some (.bool false) := by rw [hn0]; exact old_cell _ (old_cell _ (new_cell2 _ _ _ _ _ _ (by simp) rfl))
  have p2 : Wn.cell? ⟨w.heap.size, 2, none⟩ = some (.int .i64 0) := by rw [hn0]; exact old_cell _ (old_cell _ (new_cell2 _ _ _ _ _ _ (by simp) rfl))
  have p3 : Wn.cell? ⟨w.heap.size, 3, none⟩ = some (.int .i64 0) := by rw [hn0]; exact old_cell _ (old_cell _ (new_cell2 _ _ _ _ _ _ (by simp) rfl))
  have t0 : Wn.cell? ⟨w.heap.size + 1, 0, none⟩ = some (.int .i64 3) := by rw [hn0]; exact old_cell _ (new_cell2 _ _ _ _ _ _ (by simp) rfl)
  have t1 : Wn.cell? ⟨w.heap.size + 1, 1, none⟩ = some (.bool false) := by rw [hn0]; exact old_cell _ (new_cell2 _ _ _ _ _ _ (by simp) rfl)
  have t2 : Wn.cell? ⟨w.heap.size + 1, 2, none⟩ = some (.int .i64 0) := by rw [hn0]; exact old_cell _ (new_cell2 _ _ _ _ _ _ (by simp) rfl)
  have t3 : Wn.cell? ⟨w.heap.size + 1, 3, none⟩ = some (.int .i64 0) := by rw [hn0]; exact old_cell _ (new_cell2 _ _ _ _ _ _ (by simp) rfl)
  obtain ⟨q0, q1, q2, q3, qf0, qf1, qf2, qf3⟩ := new4 hn0 (n := w.heap.size + 2) (by simp)
  have s0 : Wn.heap.size = w.heap.size + 3 := by rw [hn0]; exact by simp
  subst hn0
  have K := hide (k0)
  clear k0
  have S0 := hide s0
  clear s0
  go_enter Tryz.func60, Tryz.ntmps60
  go_wp2_with fail
  generalize (((w.alloc (.cells #[.int .i64 3, .bool false, .int .i64 0, .int .i64 0] 24)).alloc (.cells #[.int .i64 3, .bool false, .int .i64 0, .int .i64 0] 24)).alloc (.cells #[.int .i64 0, .bool false, .int .i64 0, .int .i64 0] 24)) = W at *
  refine (nan_kept _).mono ?_
  rintro e w1 ⟨rfl, k1⟩
  revert qf0 qf1 qf2 qf3; refine k1.l4 q0 q1 q2 q3 ?_; intro qf0 qf1 qf2 qf3
  revert p0 p1 p2 p3 t0 t1 t2 t3 q0 q1 q2 q3; refine k1.m12 ?_; intro p0 p1 p2 p3 t0 t1 t2 t3 q0 q1 q2 q3
  replace K := hide ((unhide K).trans k1)
  have z2 := k1.size
  clear k1
  have KF := hide (((((unhide K).setNew (p := ⟨w.heap.size + 2, 0, none⟩) (by simp) (.int .i64 3)).setNew (p := ⟨w.heap.size + 2, 1, none⟩) (by simp) (.bool false)).setNew (p := ⟨w.heap.size + 2, 2, none⟩) (by simp) (.int .i64 0)).setNew (p := ⟨w.heap.size + 2, 3, none⟩) (by simp) (.int .i64 0))
  clear K
  try go_wp2_with fail
  exact bodyPost_ret (v := .tuple #[.agg #[.int .i64 3, .bool false, .int .i64 0, .int .i64 0], .int .i64 0]) (by simp [results, Tryz.results60, go_sem, q0, q1, q2, q3]) rfl ⟨by rw [unhide FQ], unhide KF⟩

end Go.Proofs.YtepehpkmejjhiaaGreatDoor

