/-
  Products of floats: the program's multiplyFloats, the model's l5mul.
-/
import Derived.Test.YtepehpkmejjhiaaGreatDoorBY
import Derived.Deep.RegionHeld3
import Derived.Deep.DeepCutAuto
namespace Go.Proofs.YtepehpkmejjhiaaGreatDoor
open Go.RowKit
set_option linter.unusedVariables false
set_option maxRecDepth 8000
set_option linter.unusedSimpArgs false

/-- A product of floats, rounded; its flags. -/
def mulQ (k1 : Int) (n1 : Bool) (m1 e1 k2 : Int) (n2 : Bool) (m2 e2 mode : Int) : (Int × Bool × Int × Int) × Int :=
  if k1 = 3 ∨ k2 = 3 then ((3, false, 0, 0), 0)
  else if (k1 = 2 ∧ k2 = 0) ∨ (k1 = 0 ∧ k2 = 2) then ((3, false, 0, 0), 16)
  else if k1 = 2 ∨ k2 = 2 then ((2, !(n1 == n2), 0, 0), 0)
  else (((flA mode (!(n1 == n2)) ((fM k1 n1 m1).natAbs * (fM k2 n2 m2).natAbs) (e1 + e2)).1, !(n1 == n2), (flA mode (!(n1 == n2)) ((fM k1 n1 m1).natAbs * (fM k2 n2 m2).natAbs) (e1 + e2)).2.1, (flA mode (!(n1 == n2)) ((fM k1 n1 m1).natAbs * (fM k2 n2 m2).natAbs) (e1 + e2)).2.2), flG mode (!(n1 == n2)) ((fM k1 n1 m1).natAbs * (fM k2 n2 m2).natAbs) (e1 + e2))
set_option maxHeartbeats 400000 in
theorem badF_impl (w : World) :
    Calls Tryz.prog 36 #[] w fun e w' => e = .returned (.tuple #[flv 3 false 0 0, .int .i64 16]) ∧ Kept 0 0 w w' := by
  go_enter Tryz.func36, Tryz.ntmps36
  go_wp2_with fail
  exact bodyPost_ret (v := .tuple #[flv 3 false 0 0, .int .i64 16]) (by simp [results, Tryz.results36, go_sem]) rfl ⟨rfl, (Kept.refl 0 0 w).alloc _⟩

theorem mul_len' {xs ys : List Int} (hx : Lim xs) (hy : Lim ys) (h1 : xs.length ≤ 4) (h2 : ys.length ≤ 4) : (limbs (val xs * val ys).toNat).length ≤ 8 := by
  refine (limbs_length_le _ _).2 ?_
  have a1 := val_lt hx
  have a2 := val_lt hy
  have b1 := val_nonneg hx
  have b2 := val_nonneg hy
  have c1 := pow_mono (a := xs.length) (b := 4) h1
  have c2 := pow_mono (a := ys.length) (b := 4) h2
  have d : val xs * val ys < 65536 ^ 4 * 65536 ^ 4 := by
   refine Int.lt_of_le_of_lt (Int.mul_le_mul_of_nonneg_right (show val xs ≤ 65536 ^ 4 by omega) b2) ?_
   exact Int.mul_lt_mul_of_pos_left (by omega) (by decide)
  have e : (65536 : Int) ^ 4 * 65536 ^ 4 = 65536 ^ 8 := by decide
  have f : 0 ≤ val xs * val ys := Int.mul_nonneg b1 b2
  rw [← e]
  omega

set_option maxHeartbeats 2000000 in
theorem mulI_num_inf (n1 : Bool) (m1 e1 : Int) (n2 : Bool) (a11 : -1074 ≤ e1) (a21 : e1 ≤ 971) (a31 : 1 ≤ m1) (a41 : m1 ≤ 9007199254740991) (mode : Int) (hm0 : 0 ≤ mode) (hm4 : mode ≤ 4) (w : World) :
    Calls Tryz.prog 40 #[.iface 113 (.agg #[.bool n1, .int .i64 m1, .int .i64 e1]), .iface 114 (.agg #[.bool n2]), .int .i64 mode] w fun e' w' => e' = .returned (.tuple #[flq (mulQ 1 n1 m1 e1 2 n2 0 0 mode).1, .int .i64 (mulQ 1 n1 m1 e1 2 n2 0 0 mode).2]) ∧ Kept 0 0 w w' := by
  obtain ⟨Q, hQ⟩ : ∃ q, mulQ 1 n1 m1 e1 2 n2 0 0 mode = q := ⟨_, rfl⟩
  rw [hQ]
  have HQ := hide hQ
  clear hQ
  have FQ : Hid (Q = ((2, !(n1 == n2), 0, 0), 0)) := by show _ = _; rw [← unhide HQ]; unfold mulQ; simp
  have g1 := fun w => hs_num n1 m1 e1 w
  have g2 := fun w => hs_inf n2 w
  obtain ⟨Wn, hn0⟩ : ∃ wz, wz = (w.alloc (.cells #[.int .i64 0, .bool false, .int .i64 0, .int .i64 0] 24)) := ⟨_, rfl⟩
  have k0 : Kept 0 0 w Wn := by rw [hn0]; exact ((Kept.refl 0 0 w).alloc _)
  obtain ⟨q0, q1, q2, q3, qf0, qf1, qf2, qf3⟩ := new4 hn0 (n := w.heap.size) (by simp)
  have s0 : Wn.heap.size = w.heap.size + 1 := by rw [hn0]; exact by simp
  subst hn0
  have K := hide (k0)
  clear k0
  have S0 := hide s0
  clear s0
  go_enter Tryz.func40, Tryz.ntmps40
  go_wp2_with fail
  generalize (w.alloc (.cells #[.int .i64 0, .bool false, .int .i64 0, .int .i64 0] 24)) = W at *
  refine (hasSign_any n1 _).mono ?_
  rintro e w1 ⟨rfl, k1⟩
  revert qf0 qf1 qf2 qf3; refine k1.l4 q0 q1 q2 q3 ?_; intro qf0 qf1 qf2 qf3
  revert q0 q1 q2 q3; refine k1.m4 ?_; intro q0 q1 q2 q3
  replace K := hide ((unhide K).trans k1)
  have z2 := k1.size
  clear k1
  go_wp2_with fail
  refine (hasSign_any n2 _).mono ?_
  rintro e w3 ⟨rfl, k3⟩
  revert qf0 qf1 qf2 qf3; refine k3.l4 q0 q1 q2 q3 ?_; intro qf0 qf1 qf2 qf3
  revert q0 q1 q2 q3; refine k3.m4 ?_; intro q0 q1 q2 q3
  replace K := hide ((unhide K).trans k3)
  have z4 := k3.size
  clear k3
  clear g1 g2
  go_wp2_with fail
  refine (is_nan_num n1 m1 e1 _).mono ?_
  rintro e w5 ⟨rfl, k5⟩
  revert qf0 qf1 qf2 qf3; refine k5.l4 q0 q1 q2 q3 ?_; intro qf0 qf1 qf2 qf3
  revert q0 q1 q2 q3; refine k5.m4 ?_; intro q0 q1 q2 q3
  replace K := hide ((unhide K).trans k5)
  have z6 := k5.size
  clear k5
  go_wp2_with fail
  refine (is_nan_inf n2 _).mono ?_
  rintro e w7 ⟨rfl, k7⟩
  revert qf0 qf1 qf2 qf3; refine k7.l4 q0 q1 q2 q3 ?_; intro qf0 qf1 qf2 qf3
  revert q0 q1 q2 q3; refine k7.m4 ?_; intro q0 q1 q2 q3
  replace K := hide ((unhide K).trans k7)
  have z8 := k7.size
  clear k7
  go_wp2_with fail
  refine (is_inf_num n1 m1 e1 _).mono ?_
  rintro e w9 ⟨rfl, k9⟩
  revert qf0 qf1 qf2 qf3; refine k9.l4 q0 q1 q2 q3 ?_; intro qf0 qf1 qf2 qf3
  revert q0 q1 q2 q3; refine k9.m4 ?_; intro q0 q1 q2 q3
  replace K := hide ((unhide K).trans k9)
  have z10 := k9.size
  clear k9
  go_wp2_with fail
  refine (is_nought_num n1 m1 e1 _).mono ?_
  rintro e w11 ⟨rfl, k11⟩
  revert qf0 qf1 qf2 qf3; refine k11.l4 q0 q1 q2 q3 ?_; intro qf0 qf1 qf2 qf3
  revert q0 q1 q2 q3; refine k11.m4 ?_; intro q0 q1 q2 q3
  replace K := hide ((unhide K).trans k11)
  have z12 := k11.size
  clear k11
  go_wp2_with fail
  refine (is_inf_num n1 m1 e1 _).mono ?_
  rintro e w13 ⟨rfl, k13⟩
  revert qf0 qf1 qf2 qf3; refine k13.l4 q0 q1 q2 q3 ?_; intro qf0 qf1 qf2 qf3
  revert q0 q1 q2 q3; refine k13.m4 ?_; intro q0 q1 q2 q3
  replace K := hide ((unhide K).trans k13)
  have z14 := k13.size
  clear k13
  go_wp2_with fail
  refine (is_inf_inf n2 _).mono ?_
  rintro e w15 ⟨rfl, k15⟩
  revert qf0 qf1 qf2 qf3; refine k15.l4 q0 q1 q2 q3 ?_; intro qf0 qf1 qf2 qf3
  revert q0 q1 q2 q3; refine k15.m4 ?_; intro q0 q1 q2 q3
  replace K := hide ((unhide K).trans k15)
  have z16 := k15.size
  clear k15
  have hne : (n1 != n2) = !(n1 == n2) := rfl
  have KF := hide (((((unhide K).setNew (p := ⟨w.heap.size, 0, none⟩) (by simp) (.int .i64 2)).setNew (p := ⟨w.heap.size, 1, none⟩) (by simp) (.bool (!(n1 == n2)))).setNew (p := ⟨w.heap.size, 2, none⟩) (by simp) (.int .i64 0)).setNew (p := ⟨w.heap.size, 3, none⟩) (by simp) (.int .i64 0))
  clear K
  try go_wp2_with fail
  exact bodyPost_ret (v := .tuple #[.agg #[.int .i64 2, .bool (!(n1 == n2)), .int .i64 0, .int .i64 0], .int .i64 0]) (by simp [results, Tryz.results40, go_sem, q0, q1, q2, q3]) rfl ⟨by rw [unhide FQ], unhide KF⟩

set_option maxHeartbeats 2000000 in
theorem mulI_num_nan (n1 : Bool) (m1 e1 : Int) (a11 : -1074 ≤ e1) (a21 : e1 ≤ 971) (a31 : 1 ≤ m1) (a41 : m1 ≤ 9007199254740991) (mode : Int) (hm0 : 0 ≤ mode) (hm4 : mode ≤ 4) (w : World) :
    Calls Tryz.prog 40 #[.iface 113 (.agg #[.bool n1, .int .i64 m1, .int .i64 e1]), .iface 115 (.agg #[.bool false]), .int .i64 mode] w fun e' w' => e' = .returned (.tuple #[flq (mulQ 1 n1 m1 e1 3 false 0 0 mode).1, .int .i64 (mulQ 1 n1 m1 e1 3 false 0 0 mode).2]) ∧ Kept 0 0 w w' := by
  obtain ⟨Q, hQ⟩ : ∃ q, mulQ 1 n1 m1 e1 3 false 0 0 mode = q := ⟨_, rfl⟩
  rw [hQ]
  have HQ := hide hQ
  clear hQ
  have FQ : Hid (Q = ((3, false, 0, 0), 0)) := by show _ = _; rw [← unhide HQ]; unfold mulQ; simp
  have g1 := fun w => hs_num n1 m1 e1 w
  have g2 := fun w => hs_nan w
  obtain ⟨Wn, hn0⟩ : ∃ wz, wz = (w.alloc (.cells #[.int .i64 0, .bool false, .int .i64 0, .int .i64 0] 24)) := ⟨_, rfl⟩
  have k0 : Kept 0 0 w Wn := by rw [hn0]; exact ((Kept.refl 0 0 w).alloc _)
  obtain ⟨q0, q1, q2, q3, qf0, qf1, qf2, qf3⟩ := new4 hn0 (n := w.heap.size) (by simp)
  have s0 : Wn.heap.size = w.heap.size + 1 := by rw [hn0]; exact by simp
  subst hn0
  have K := hide (k0)
  clear k0
  have S0 := hide s0
  clear s0
  go_enter Tryz.func40, Tryz.ntmps40
  go_wp2_with fail
  generalize (w.alloc (.cells #[.int .i64 0, .bool false, .int .i64 0, .int .i64 0] 24)) = W at *
  refine (hasSign_any n1 _).mono ?_
  rintro e w1 ⟨rfl, k1⟩
  revert qf0 qf1 qf2 qf3; refine k1.l4 q0 q1 q2 q3 ?_; intro qf0 qf1 qf2 qf3
  revert q0 q1 q2 q3; refine k1.m4 ?_; intro q0 q1 q2 q3
  replace K := hide ((unhide K).trans k1)
  have z2 := k1.size
  clear k1
  go_wp2_with fail
  refine (hasSign_any false _).mono ?_
  rintro e w3 ⟨rfl, k3⟩
  revert qf0 qf1 qf2 qf3; refine k3.l4 q0 q1 q2 q3 ?_; intro qf0 qf1 qf2 qf3
  revert q0 q1 q2 q3; refine k3.m4 ?_; intro q0 q1 q2 q3
  replace K := hide ((unhide K).trans k3)
  have z4 := k3.size
  clear k3
  clear g1 g2
  go_wp2_with fail
  refine (is_nan_num n1 m1 e1 _).mono ?_
  rintro e w5 ⟨rfl, k5⟩
  revert qf0 qf1 qf2 qf3; refine k5.l4 q0 q1 q2 q3 ?_; intro qf0 qf1 qf2 qf3
  revert q0 q1 q2 q3; refine k5.m4 ?_; intro q0 q1 q2 q3
  replace K := hide ((unhide K).trans k5)
  have z6 := k5.size
  clear k5
  go_wp2_with fail
  refine (is_nan_nan _).mono ?_
  rintro e w7 ⟨rfl, k7⟩
  revert qf0 qf1 qf2 qf3; refine k7.l4 q0 q1 q2 q3 ?_; intro qf0 qf1 qf2 qf3
  revert q0 q1 q2 q3; refine k7.m4 ?_; intro q0 q1 q2 q3
  replace K := hide ((unhide K).trans k7)
  have z8 := k7.size
  clear k7
  have KF := hide (((((unhide K).setNew (p := ⟨w.heap.size, 0, none⟩) (by simp) (.int .i64 3)).setNew (p := ⟨w.heap.size, 1, none⟩) (by simp) (.bool false)).setNew (p := ⟨w.heap.size, 2, none⟩) (by simp) (.int .i64 0)).setNew (p := ⟨w.heap.size, 3, none⟩) (by simp) (.int .i64 0))
  clear K
  try go_wp2_with fail
  exact bodyPost_ret (v := .tuple #[.agg #[.int .i64 3, .bool false, .int .i64 0, .int .i64 0], .int .i64 0]) (by simp [results, Tryz.results40, go_sem, q0, q1, q2, q3]) rfl ⟨by rw [unhide FQ], unhide KF⟩

set_option maxHeartbeats 2000000 in
theorem mulI_nought_inf (n1 : Bool) (n2 : Bool) (mode : Int) (hm0 : 0 ≤ mode) (hm4 : mode ≤ 4) (w : World) :
    Calls Tryz.prog 40 #[.iface 111 (.agg #[.bool n1]), .iface 114 (.agg #[.bool n2]), .int .i64 mode] w fun e' w' => e' = .returned (.tuple #[flq (mulQ 0 n1 0 0 2 n2 0 0 mode).1, .int .i64 (mulQ 0 n1 0 0 2 n2 0 0 mode).2]) ∧ Kept 0 0 w w' := by
  obtain ⟨Q, hQ⟩ : ∃ q, mulQ 0 n1 0 0 2 n2 0 0 mode = q := ⟨_, rfl⟩
  rw [hQ]
  have HQ := hide hQ
  clear hQ
  have FQ : Hid (Q = ((3, false, 0, 0), 16)) := by show _ = _; rw [← unhide HQ]; unfold mulQ; simp
  have g1 := fun w => hs_nought n1 w
  have g2 := fun w => hs_inf n2 w
  obtain ⟨Wn, hn0⟩ : ∃ wz, wz = (w.alloc (.cells #[.int .i64 0, .bool false, .int .i64 0, .int .i64 0] 24)) := ⟨_, rfl⟩
  have k0 : Kept 0 0 w Wn := by rw [hn0]; exact ((Kept.refl 0 0 w).alloc _)
  obtain ⟨q0, q1, q2, q3, qf0, qf1, qf2, qf3⟩ := new4 hn0 (n := w.heap.size) (by simp)
  have s0 : Wn.heap.size = w.heap.size + 1 := by rw [hn0]; exact by simp
  subst hn0
  have K := hide (k0)
  clear k0
  have S0 := hide s0
  clear s0
  go_enter Tryz.func40, Tryz.ntmps40
  go_wp2_with fail
  generalize (w.alloc (.cells #[.int .i64 0, .bool false, .int .i64 0, .int .i64 0] 24)) = W at *
  refine (hasSign_any n1 _).mono ?_
  rintro e w1 ⟨rfl, k1⟩
  revert qf0 qf1 qf2 qf3; refine k1.l4 q0 q1 q2 q3 ?_; intro qf0 qf1 qf2 qf3
  revert q0 q1 q2 q3; refine k1.m4 ?_; intro q0 q1 q2 q3
  replace K := hide ((unhide K).trans k1)
  have z2 := k1.size
  clear k1
  go_wp2_with fail
  refine (hasSign_any n2 _).mono ?_
  rintro e w3 ⟨rfl, k3⟩
  revert qf0 qf1 qf2 qf3; refine k3.l4 q0 q1 q2 q3 ?_; intro qf0 qf1 qf2 qf3
  revert q0 q1 q2 q3; refine k3.m4 ?_; intro q0 q1 q2 q3
  replace K := hide ((unhide K).trans k3)
  have z4 := k3.size
  clear k3
  clear g1 g2
  go_wp2_with fail
  refine (is_nan_nought n1 _).mono ?_
  rintro e w5 ⟨rfl, k5⟩
  revert qf0 qf1 qf2 qf3; refine k5.l4 q0 q1 q2 q3 ?_; intro qf0 qf1 qf2 qf3
  revert q0 q1 q2 q3; refine k5.m4 ?_; intro q0 q1 q2 q3
  replace K := hide ((unhide K).trans k5)
  have z6 := k5.size
  clear k5
  go_wp2_with fail
  refine (is_nan_inf n2 _).mono ?_
  rintro e w7 ⟨rfl, k7⟩
  revert qf0 qf1 qf2 qf3; refine k7.l4 q0 q1 q2 q3 ?_; intro qf0 qf1 qf2 qf3
  revert q0 q1 q2 q3; refine k7.m4 ?_; intro q0 q1 q2 q3
  replace K := hide ((unhide K).trans k7)
  have z8 := k7.size
  clear k7
  go_wp2_with fail
  refine (is_inf_nought n1 _).mono ?_
  rintro e w9 ⟨rfl, k9⟩
  revert qf0 qf1 qf2 qf3; refine k9.l4 q0 q1 q2 q3 ?_; intro qf0 qf1 qf2 qf3
  revert q0 q1 q2 q3; refine k9.m4 ?_; intro q0 q1 q2 q3
  replace K := hide ((unhide K).trans k9)
  have z10 := k9.size
  clear k9
  go_wp2_with fail
  refine (is_nought_nought n1 _).mono ?_
  rintro e w11 ⟨rfl, k11⟩
  revert qf0 qf1 qf2 qf3; refine k11.l4 q0 q1 q2 q3 ?_; intro qf0 qf1 qf2 qf3
  revert q0 q1 q2 q3; refine k11.m4 ?_; intro q0 q1 q2 q3
  replace K := hide ((unhide K).trans k11)
  have z12 := k11.size
  clear k11
  go_wp2_with fail
  refine (is_inf_inf n2 _).mono ?_
  rintro e w13 ⟨rfl, k13⟩
  revert qf0 qf1 qf2 qf3; refine k13.l4 q0 q1 q2 q3 ?_; intro qf0 qf1 qf2 qf3
  revert q0 q1 q2 q3; refine k13.m4 ?_; intro q0 q1 q2 q3
  replace K := hide ((unhide K).trans k13)
  have z14 := k13.size
  clear k13
  go_wp2_with fail
  refine (badF_impl _).mono ?_
  rintro e w15 ⟨rfl, k15⟩
  revert qf0 qf1 qf2 qf3; refine k15.l4 q0 q1 q2 q3 ?_; intro qf0 qf1 qf2 qf3
  revert q0 q1 q2 q3; refine k15.m4 ?_; intro q0 q1 q2 q3
  replace K := hide ((unhide K).trans k15)
  have z16 := k15.size
  clear k15
  have KF := hide (((((unhide K).setNew (p := ⟨w.heap.size, 0, none⟩) (by simp) (.int .i64 3)).setNew (p := ⟨w.heap.size, 1, none⟩) (by simp) (.bool false)).setNew (p := ⟨w.heap.size, 2, none⟩) (by simp) (.int .i64 0)).setNew (p := ⟨w.heap.size, 3, none⟩) (by simp) (.int .i64 0))
  clear K
  try go_wp2_with fail
  exact bodyPost_ret (v := .tuple #[.agg #[.int .i64 3, .bool false, .int .i64 0, .int .i64 0], .int .i64 16]) (by simp [results, Tryz.results40, go_sem, q0, q1, q2, q3]) rfl ⟨by rw [unhide FQ], unhide KF⟩

set_option maxHeartbeats 2000000 in
theorem mulI_nought_nan (n1 : Bool) (mode : Int) (hm0 : 0 ≤ mode) (hm4 : mode ≤ 4) (w : World) :
    Calls Tryz.prog 40 #[.iface 111 (.agg #[.bool n1]), .iface 115 (.agg #[.bool false]), .int .i64 mode] w fun e' w' => e' = .returned (.tuple #[flq (mulQ 0 n1 0 0 3 false 0 0 mode).1, .int .i64 (mulQ 0 n1 0 0 3 false 0 0 mode).2]) ∧ Kept 0 0 w w' := by
  obtain ⟨Q, hQ⟩ : ∃ q, mulQ 0 n1 0 0 3 false 0 0 mode = q := ⟨_, rfl⟩
  rw [hQ]
  have HQ := hide hQ
  clear hQ
  have FQ : Hid (Q = ((3, false, 0, 0), 0)) := by show _ = _; rw [← unhide HQ]; unfold mulQ; simp
  have g1 := fun w => hs_nought n1 w
  have g2 := fun w => hs_nan w
  obtain ⟨Wn, hn0⟩ : ∃ wz, wz = (w.alloc (.cells #[.int .i64 0, .bool false, .int .i64 0, .int .i64 0] 24)) := ⟨_, rfl⟩
  have k0 : Kept 0 0 w Wn := by rw [hn0]; exact ((Kept.refl 0 0 w).alloc _)
  obtain ⟨q0, q1, q2, q3, qf0, qf1, qf2, qf3⟩ := new4 hn0 (n := w.heap.size) (by simp)
  have s0 : Wn.heap.size = w.heap.size + 1 := by rw [hn0]; exact by simp
  subst hn0
  have K := hide (k0)
  clear k0
  have S0 := hide s0
  clear s0
  go_enter Tryz.func40, Tryz.ntmps40
  go_wp2_with fail
  generalize (w.alloc (.cells #[.int .i64 0, .bool false, .int .i64 0, .int .i64 0] 24)) = W at *
  refine (hasSign_any n1 _).mono ?_
  rintro e w1 ⟨rfl, k1⟩
  revert qf0 qf1 qf2 qf3; refine k1.l4 q0 q1 q2 q3 ?_; intro qf0 qf1 qf2 qf3
  revert q0 q1 q2 q3; refine k1.m4 ?_; intro q0 q1 q2 q3
  replace K := hide ((unhide K).trans k1)
  have z2 := k1.size
  clear k1
  go_wp2_with fail
  refine (hasSign_any false _).mono ?_
  rintro e w3 ⟨rfl, k3⟩
  revert qf0 qf1 qf2 qf3; refine k3.l4 q0 q1 q2 q3 ?_; intro qf0 qf1 qf2 qf3
  revert q0 q1 q2 q3; refine k3.m4 ?_; intro q0 q1 q2 q3
  replace K := hide ((unhide K).trans k3)
  have z4 := k3.size
  clear k3
  clear g1 g2
  go_wp2_with fail
  refine (is_nan_nought n1 _).mono ?_
  rintro e w5 ⟨rfl, k5⟩
  revert qf0 qf1 qf2 qf3; refine k5.l4 q0 q1 q2 q3 ?_; intro qf0 qf1 qf2 qf3
  revert q0 q1 q2 q3; refine k5.m4 ?_; intro q0 q1 q2 q3
  replace K := hide ((unhide K).trans k5)
  have z6 := k5.size
  clear k5
  go_wp2_with fail
  refine (is_nan_nan _).mono ?_
  rintro e w7 ⟨rfl, k7⟩
  revert qf0 qf1 qf2 qf3; refine k7.l4 q0 q1 q2 q3 ?_; intro qf0 qf1 qf2 qf3
  revert q0 q1 q2 q3; refine k7.m4 ?_; intro q0 q1 q2 q3
  replace K := hide ((unhide K).trans k7)
  have z8 := k7.size
  clear k7
  have KF := hide (((((unhide K).setNew (p := ⟨w.heap.size, 0, none⟩) (by simp) (.int .i64 3)).setNew (p := ⟨w.heap.size, 1, none⟩) (by simp) (.bool false)).setNew (p := ⟨w.heap.size, 2, none⟩) (by simp) (.int .i64 0)).setNew (p := ⟨w.heap.size, 3, none⟩) (by simp) (.int .i64 0))
  clear K
  try go_wp2_with fail
  exact bodyPost_ret (v := .tuple #[.agg #[.int .i64 3, .bool false, .int .i64 0, .int .i64 0], .int .i64 0]) (by simp [results, Tryz.results40, go_sem, q0, q1, q2, q3]) rfl ⟨by rw [unhide FQ], unhide KF⟩

set_option maxHeartbeats 2000000 in
theorem mulI_inf_num (n1 : Bool) (n2 : Bool) (m2 e2 : Int) (a12 : -1074 ≤ e2) (a22 : e2 ≤ 971) (a32 : 1 ≤ m2) (a42 : m2 ≤ 9007199254740991) (mode : Int) (hm0 : 0 ≤ mode) (hm4 : mode ≤ 4) (w : World) :
    Calls Tryz.prog 40 #[.iface 114 (.agg #[.bool n1]), .iface 113 (.agg #[.bool n2, .int .i64 m2, .int .i64 e2]), .int .i64 mode] w fun e' w' => e' = .returned (.tuple #[flq (mulQ 2 n1 0 0 1 n2 m2 e2 mode).1, .int .i64 (mulQ 2 n1 0 0 1 n2 m2 e2 mode).2]) ∧ Kept 0 0 w w' := by
  obtain ⟨Q, hQ⟩ : ∃ q, mulQ 2 n1 0 0 1 n2 m2 e2 mode = q := ⟨_, rfl⟩
  rw [hQ]
  have HQ := hide hQ
  clear hQ
  have FQ : Hid (Q = ((2, !(n1 == n2), 0, 0), 0)) := by show _ = _; rw [← unhide HQ]; unfold mulQ; simp
  have g1 := fun w => hs_inf n1 w
  have g2 := fun w => hs_num n2 m2 e2 w
  obtain ⟨Wn, hn0⟩ : ∃ wz, wz = (w.alloc (.cells #[.int .i64 0, .bool false, .int .i64 0, .int .i64 0] 24)) := ⟨_, rfl⟩
  have k0 : Kept 0 0 w Wn := by rw [hn0]; exact ((Kept.refl 0 0 w).alloc _)
  obtain ⟨q0, q1, q2, q3, qf0, qf1, qf2, qf3⟩ := new4 hn0 (n := w.heap.size) (by simp)
  have s0 : Wn.heap.size = w.heap.size + 1 := by rw [hn0]; exact by simp
  subst hn0
  have K := hide (k0)
  clear k0
  have S0 := hide s0
  clear s0
  go_enter Tryz.func40, Tryz.ntmps40
  go_wp2_with fail
  generalize (w.alloc (.cells #[.int .i64 0, .bool false, .int .i64 0, .int .i64 0] 24)) = W at *
  refine (hasSign_any n1 _).mono ?_
  rintro e w1 ⟨rfl, k1⟩
  revert qf0 qf1 qf2 qf3; refine k1.l4 q0 q1 q2 q3 ?_; intro qf0 qf1 qf2 qf3
  revert q0 q1 q2 q3; refine k1.m4 ?_; intro q0 q1 q2 q3
  replace K := hide ((unhide K).trans k1)
  have z2 := k1.size
  clear k1
  go_wp2_with fail
  refine (hasSign_any n2 _).mono ?_
  rintro e w3 ⟨rfl, k3⟩
  revert qf0 qf1 qf2 qf3; refine k3.l4 q0 q1 q2 q3 ?_; intro qf0 qf1 qf2 qf3
  revert q0 q1 q2 q3; refine k3.m4 ?_; intro q0 q1 q2 q3
  replace K := hide ((unhide K).trans k3)
  have z4 := k3.size
  clear k3
  clear g1 g2
  go_wp2_with fail
  refine (is_nan_inf n1 _).mono ?_
  rintro e w5 ⟨rfl, k5⟩
  revert qf0 qf1 qf2 qf3; refine k5.l4 q0 q1 q2 q3 ?_; intro qf0 qf1 qf2 qf3
  revert q0 q1 q2 q3; refine k5.m4 ?_; intro q0 q1 q2 q3
  replace K := hide ((unhide K).trans k5)
  have z6 := k5.size
  clear k5
  go_wp2_with fail
  refine (is_nan_num n2 m2 e2 _).mono ?_
  rintro e w7 ⟨rfl, k7⟩
  revert qf0 qf1 qf2 qf3; refine k7.l4 q0 q1 q2 q3 ?_; intro qf0 qf1 qf2 qf3
  revert q0 q1 q2 q3; refine k7.m4 ?_; intro q0 q1 q2 q3
  replace K := hide ((unhide K).trans k7)
  have z8 := k7.size
  clear k7
  go_wp2_with fail
  refine (is_inf_inf n1 _).mono ?_
  rintro e w9 ⟨rfl, k9⟩
  revert qf0 qf1 qf2 qf3; refine k9.l4 q0 q1 q2 q3 ?_; intro qf0 qf1 qf2 qf3
  revert q0 q1 q2 q3; refine k9.m4 ?_; intro q0 q1 q2 q3
  replace K := hide ((unhide K).trans k9)
  have z10 := k9.size
  clear k9
  go_wp2_with fail
  refine (is_nought_num n2 m2 e2 _).mono ?_
  rintro e w11 ⟨rfl, k11⟩
  revert qf0 qf1 qf2 qf3; refine k11.l4 q0 q1 q2 q3 ?_; intro qf0 qf1 qf2 qf3
  revert q0 q1 q2 q3; refine k11.m4 ?_; intro q0 q1 q2 q3
  replace K := hide ((unhide K).trans k11)
  have z12 := k11.size
  clear k11
  go_wp2_with fail
  refine (is_nought_inf n1 _).mono ?_
  rintro e w13 ⟨rfl, k13⟩
  revert qf0 qf1 qf2 qf3; refine k13.l4 q0 q1 q2 q3 ?_; intro qf0 qf1 qf2 qf3
  revert q0 q1 q2 q3; refine k13.m4 ?_; intro q0 q1 q2 q3
  replace K := hide ((unhide K).trans k13)
  have z14 := k13.size
  clear k13
  go_wp2_with fail
  refine (is_inf_inf n1 _).mono ?_
  rintro e w15 ⟨rfl, k15⟩
  revert qf0 qf1 qf2 qf3; refine k15.l4 q0 q1 q2 q3 ?_; intro qf0 qf1 qf2 qf3
  revert q0 q1 q2 q3; refine k15.m4 ?_; intro q0 q1 q2 q3
  replace K := hide ((unhide K).trans k15)
  have z16 := k15.size
  clear k15
  have hne : (n1 != n2) = !(n1 == n2) := rfl
  have KF := hide (((((unhide K).setNew (p := ⟨w.heap.size, 0, none⟩) (by simp) (.int .i64 2)).setNew (p := ⟨w.heap.size, 1, none⟩) (by simp) (.bool (!(n1 == n2)))).setNew (p := ⟨w.heap.size, 2, none⟩) (by simp) (.int .i64 0)).setNew (p := ⟨w.heap.size, 3, none⟩) (by simp) (.int .i64 0))
  clear K
  try go_wp2_with fail
  exact bodyPost_ret (v := .tuple #[.agg #[.int .i64 2, .bool (!(n1 == n2)), .int .i64 0, .int .i64 0], .int .i64 0]) (by simp [results, Tryz.results40, go_sem, q0, q1, q2, q3]) rfl ⟨by rw [unhide FQ], unhide KF⟩

set_option maxHeartbeats 2000000 in
theorem mulI_inf_nought (n1 : Bool) (n2 : Bool) (mode : Int) (hm0 : 0 ≤ mode) (hm4 : mode ≤ 4) (w : World) :
    Calls Tryz.prog 40 #[.iface 114 (.agg #[.bool n1]), .iface 111 (.agg #[.bool n2]), .int .i64 mode] w fun e' w' => e' = .returned (.tuple #[flq (mulQ 2 n1 0 0 0 n2 0 0 mode).1, .int .i64 (mulQ 2 n1 0 0 0 n2 0 0 mode).2]) ∧ Kept 0 0 w w' := by
  obtain ⟨Q, hQ⟩ : ∃ q, mulQ 2 n1 0 0 0 n2 0 0 mode = q := ⟨_, rfl⟩
  rw [hQ]
  have HQ := hide hQ
  clear hQ
  have FQ : Hid (Q = ((3, false, 0, 0), 16)) := by show _ = _; rw [← unhide HQ]; unfold mulQ; simp
  have g1 := fun w => hs_inf n1 w
  have g2 := fun w => hs_nought n2 w
  obtain ⟨Wn, hn0⟩ : ∃ wz, wz = (w.alloc (.cells #[.int .i64 0, .bool false, .int .i64 0, .int .i64 0] 24)) := ⟨_, rfl⟩
  have k0 : Kept 0 0 w Wn := by rw [hn0]; exact ((Kept.refl 0 0 w).alloc _)
  obtain ⟨q0, q1, q2, q3, qf0, qf1, qf2, qf3⟩ := new4 hn0 (n := w.heap.size) (by simp)
  have s0 : Wn.heap.size = w.heap.size + 1 := by rw [hn0]; exact by simp
  subst hn0
  have K := hide (k0)
  clear k0
  have S0 := hide s0
  clear s0
  go_enter Tryz.func40, Tryz.ntmps40
  go_wp2_with fail
  generalize (w.alloc (.cells #[.int .i64 0, .bool false, .int .i64 0, .int .i64 0] 24)) = W at *
  refine (hasSign_any n1 _).mono ?_
  rintro e w1 ⟨rfl, k1⟩
  revert qf0 qf1 qf2 qf3; refine k1.l4 q0 q1 q2 q3 ?_; intro qf0 qf1 qf2 qf3
  revert q0 q1 q2 q3; refine k1.m4 ?_; intro q0 q1 q2 q3
  replace K := hide ((unhide K).trans k1)
  have z2 := k1.size
  clear k1
  go_wp2_with fail
  refine (hasSign_any n2 _).mono ?_
  rintro e w3 ⟨rfl, k3⟩
  revert qf0 qf1 qf2 qf3; refine k3.l4 q0 q1 q2 q3 ?_; intro qf0 qf1 qf2 qf3
  revert q0 q1 q2 q3; refine k3.m4 ?_; intro q0 q1 q2 q3
  replace K := hide ((unhide K).trans k3)
  have z4 := k3.size
  clear k3
  clear g1 g2
  go_wp2_with fail
  refine (is_nan_inf n1 _).mono ?_
  rintro e w5 ⟨rfl, k5⟩
  revert qf0 qf1 qf2 qf3; refine k5.l4 q0 q1 q2 q3 ?_; intro qf0 qf1 qf2 qf3
  revert q0 q1 q2 q3; refine k5.m4 ?_; intro q0 q1 q2 q3
  replace K := hide ((unhide K).trans k5)
  have z6 := k5.size
  clear k5
  go_wp2_with fail
  refine (is_nan_nought n2 _).mono ?_
  rintro e w7 ⟨rfl, k7⟩
  revert qf0 qf1 qf2 qf3; refine k7.l4 q0 q1 q2 q3 ?_; intro qf0 qf1 qf2 qf3
  revert q0 q1 q2 q3; refine k7.m4 ?_; intro q0 q1 q2 q3
  replace K := hide ((unhide K).trans k7)
  have z8 := k7.size
  clear k7
  go_wp2_with fail
  refine (is_inf_inf n1 _).mono ?_
  rintro e w9 ⟨rfl, k9⟩
  revert qf0 qf1 qf2 qf3; refine k9.l4 q0 q1 q2 q3 ?_; intro qf0 qf1 qf2 qf3
  revert q0 q1 q2 q3; refine k9.m4 ?_; intro q0 q1 q2 q3
  replace K := hide ((unhide K).trans k9)
  have z10 := k9.size
  clear k9
  go_wp2_with fail
  refine (is_nought_nought n2 _).mono ?_
  rintro e w11 ⟨rfl, k11⟩
  revert qf0 qf1 qf2 qf3; refine k11.l4 q0 q1 q2 q3 ?_; intro qf0 qf1 qf2 qf3
  revert q0 q1 q2 q3; refine k11.m4 ?_; intro q0 q1 q2 q3
  replace K := hide ((unhide K).trans k11)
  have z12 := k11.size
  clear k11
  go_wp2_with fail
  refine (badF_impl _).mono ?_
  rintro e w13 ⟨rfl, k13⟩
  revert qf0 qf1 qf2 qf3; refine k13.l4 q0 q1 q2 q3 ?_; intro qf0 qf1 qf2 qf3
  revert q0 q1 q2 q3; refine k13.m4 ?_; intro q0 q1 q2 q3
  replace K := hide ((unhide K).trans k13)
  have z14 := k13.size
  clear k13
  have KF := hide (((((unhide K).setNew (p := ⟨w.heap.size, 0, none⟩) (by simp) (.int .i64 3)).setNew (p := ⟨w.heap.size, 1, none⟩) (by simp) (.bool false)).setNew (p := ⟨w.heap.size, 2, none⟩) (by simp) (.int .i64 0)).setNew (p := ⟨w.heap.size, 3, none⟩) (by simp) (.int .i64 0))
  clear K
  try go_wp2_with fail
  exact bodyPost_ret (v := .tuple #[.agg #[.int .i64 3, .bool false, .int .i64 0, .int .i64 0], .int .i64 16]) (by simp [results, Tryz.results40, go_sem, q0, q1, q2, q3]) rfl ⟨by rw [unhide FQ], unhide KF⟩

set_option maxHeartbeats 2000000 in
theorem mulI_inf_inf (n1 : Bool) (n2 : Bool) (mode : Int) (hm0 : 0 ≤ mode) (hm4 : mode ≤ 4) (w : World) :
    Calls Tryz.prog 40 #[.iface 114 (.agg #[.bool n1]), .iface 114 (.agg #[.bool n2]), .int .i64 mode] w fun e' w' => e' = .returned (.tuple #[flq (mulQ 2 n1 0 0 2 n2 0 0 mode).1, .int .i64 (mulQ 2 n1 0 0 2 n2 0 0 mode).2]) ∧ Kept 0 0 w w' := by
  obtain ⟨Q, hQ⟩ : ∃ q, mulQ 2 n1 0 0 2 n2 0 0 mode = q := ⟨_, rfl⟩
  rw [hQ]
  have HQ := hide hQ
  clear hQ
  have FQ : Hid (Q = ((2, !(n1 == n2), 0, 0), 0)) := by show _ = _; rw [← unhide HQ]; unfold mulQ; simp
  have g1 := fun w => hs_inf n1 w
  have g2 := fun w => hs_inf n2 w
  obtain ⟨Wn, hn0⟩ : ∃ wz, wz = (w.alloc (.cells #[.int .i64 0, .bool false, .int .i64 0, .int .i64 0] 24)) := ⟨_, rfl⟩
  have k0 : Kept 0 0 w Wn := by rw [hn0]; exact ((Kept.refl 0 0 w).alloc _)
  obtain ⟨q0, q1, q2, q3, qf0, qf1, qf2, qf3⟩ := new4 hn0 (n := w.heap.size) (by simp)
  have s0 : Wn.heap.size = w.heap.size + 1 := by rw [hn0]; exact by simp
  subst hn0
  have K := hide (k0)
  clear k0
  have S0 := hide s0
  clear s0
  go_enter Tryz.func40, Tryz.ntmps40
  go_wp2_with fail
  generalize (w.alloc (.cells #[.int .i64 0, .bool false, .int .i64 0, .int .i64 0] 24)) = W at *
  refine (hasSign_any n1 _).mono ?_
  rintro e w1 ⟨rfl, k1⟩
  revert qf0 qf1 qf2 qf3; refine k1.l4 q0 q1 q2 q3 ?_; intro qf0 qf1 qf2 qf3
  revert q0 q1 q2 q3; refine k1.m4 ?_; intro q0 q1 q2 q3
  replace K := hide ((unhide K).trans k1)
  have z2 := k1.size
  clear k1
  go_wp2_with fail
  refine (hasSign_any n2 _).mono ?_
  rintro e w3 ⟨rfl, k3⟩
  revert qf0 qf1 qf2 qf3; refine k3.l4 q0 q1 q2 q3 ?_; intro qf0 qf1 qf2 qf3
  revert q0 q1 q2 q3; refine k3.m4 ?_; intro q0 q1 q2 q3
  replace K := hide ((unhide K).trans k3)
  have z4 := k3.size
  clear k3
  clear g1 g2
  go_wp2_with fail
  refine (is_nan_inf n1 _).mono ?_
  rintro e w5 ⟨rfl, k5⟩
  revert qf0 qf1 qf2 qf3; refine k5.l4 q0 q1 q2 q3 ?_; intro qf0 qf1 qf2 qf3
  revert q0 q1 q2 q3; refine k5.m4 ?_; intro q0 q1 q2 q3
  replace K := hide ((unhide K).trans k5)
  have z6 := k5.size
  clear k5
  go_wp2_with fail
  refine (is_nan_inf n2 _).mono ?_
  rintro e w7 ⟨rfl, k7⟩
  revert qf0 qf1 qf2 qf3; refine k7.l4 q0 q1 q2 q3 ?_; intro qf0 qf1 qf2 qf3
  revert q0 q1 q2 q3; refine k7.m4 ?_; intro q0 q1 q2 q3
  replace K := hide ((unhide K).trans k7)
  have z8 := k7.size
  clear k7
  go_wp2_with fail
  refine (is_inf_inf n1 _).mono ?_
  rintro e w9 ⟨rfl, k9⟩
  revert qf0 qf1 qf2 qf3; refine k9.l4 q0 q1 q2 q3 ?_; intro qf0 qf1 qf2 qf3
  revert q0 q1 q2 q3; refine k9.m4 ?_; intro q0 q1 q2 q3
  replace K := hide ((unhide K).trans k9)
  have z10 := k9.size
  clear k9
  go_wp2_with fail
  refine (is_nought_inf n2 _).mono ?_
  rintro e w11 ⟨rfl, k11⟩
  revert qf0 qf1 qf2 qf3; refine k11.l4 q0 q1 q2 q3 ?_; intro qf0 qf1 qf2 qf3
  revert q0 q1 q2 q3; refine k11.m4 ?_; intro q0 q1 q2 q3
  replace K := hide ((unhide K).trans k11)
  have z12 := k11.size
  clear k11
  go_wp2_with fail
  refine (is_nought_inf n1 _).mono ?_
  rintro e w13 ⟨rfl, k13⟩
  revert qf0 qf1 qf2 qf3; refine k13.l4 q0 q1 q2 q3 ?_; intro qf0 qf1 qf2 qf3
  revert q0 q1 q2 q3; refine k13.m4 ?_; intro q0 q1 q2 q3
  replace K := hide ((unhide K).trans k13)
  have z14 := k13.size
  clear k13
  go_wp2_with fail
  refine (is_inf_inf n1 _).mono ?_
  rintro e w15 ⟨rfl, k15⟩
  revert qf0 qf1 qf2 qf3; refine k15.l4 q0 q1 q2 q3 ?_; intro qf0 qf1 qf2 qf3
  revert q0 q1 q2 q3; refine k15.m4 ?_; intro q0 q1 q2 q3
  replace K := hide ((unhide K).trans k15)
  have z16 := k15.size
  clear k15
  have hne : (n1 != n2) = !(n1 == n2) := rfl
  have KF := hide (((((unhide K).setNew (p := ⟨w.heap.size, 0, none⟩) (by simp) (.int .i64 2)).setNew (p := ⟨w.heap.size, 1, none⟩) (by simp) (.bool (!(n1 == n2)))).setNew (p := ⟨w.heap.size, 2, none⟩) (by simp) (.int .i64 0)).setNew (p := ⟨w.heap.size, 3, none⟩) (by simp) (.int .i64 0))
  clear K
  try go_wp2_with fail
  exact bodyPost_ret (v := .tuple #[.agg #[.int .i64 2, .bool (!(n1 == n2)), .int .i64 0, .int .i64 0], .int .i64 0]) (by simp [results, Tryz.results40, go_sem, q0, q1, q2, q3]) rfl ⟨by rw [unhide FQ], unhide KF⟩

set_option maxHeartbeats 2000000 in
theorem mulI_inf_nan (n1 : Bool) (mode : Int) (hm0 : 0 ≤ mode) (hm4 : mode ≤ 4) (w : World) :
    Calls Tryz.prog 40 #[.iface 114 (.agg #[.bool n1]), .iface 115 (.agg #[.bool false]), .int .i64 mode] w fun e' w' => e' = .returned (.tuple #[flq (mulQ 2 n1 0 0 3 false 0 0 mode).1, .int .i64 (mulQ 2 n1 0 0 3 false 0 0 mode).2]) ∧ Kept 0 0 w w' := by
  obtain ⟨Q, hQ⟩ : ∃ q, mulQ 2 n1 0 0 3 false 0 0 mode = q := ⟨_, rfl⟩
  rw [hQ]
  have HQ := hide hQ
  clear hQ
  have FQ : Hid (Q = ((3, false, 0, 0), 0)) := by show _ = _; rw [← unhide HQ]; unfold mulQ; simp
  have g1 := fun w => hs_inf n1 w
  have g2 := fun w => hs_nan w
  obtain ⟨Wn, hn0⟩ : ∃ wz, wz = (w.alloc (.cells #[.int .i64 0, .bool false, .int .i64 0, .int .i64 0] 24)) := ⟨_, rfl⟩
  have k0 : Kept 0 0 w Wn := by rw [hn0]; exact ((Kept.refl 0 0 w).alloc _)
  obtain ⟨q0, q1, q2, q3, qf0, qf1, qf2, qf3⟩ := new4 hn0 (n := w.heap.size) (by simp)
  have s0 : Wn.heap.size = w.heap.size + 1 := by rw [hn0]; exact by simp
  subst hn0
  have K := hide (k0)
  clear k0
  have S0 := hide s0
  clear s0
  go_enter Tryz.func40, Tryz.ntmps40
  go_wp2_with fail
  generalize (w.alloc (.cells #[.int .i64 0, .bool false, .int .i64 0, .int .i64 0] 24)) = W at *
  refine (hasSign_any n1 _).mono ?_
  rintro e w1 ⟨rfl, k1⟩
  revert qf0 qf1 qf2 qf3; refine k1.l4 q0 q1 q2 q3 ?_; intro qf0 qf1 qf2 qf3
  revert q0 q1 q2 q3; refine k1.m4 ?_; intro q0 q1 q2 q3
  replace K := hide ((unhide K).trans k1)
  have z2 := k1.size
  clear k1
  go_wp2_with fail
  refine (hasSign_any false _).mono ?_
  rintro e w3 ⟨rfl, k3⟩
  revert qf0 qf1 qf2 qf3; refine k3.l4 q0 q1 q2 q3 ?_; intro qf0 qf1 qf2 qf3
  revert q0 q1 q2 q3; refine k3.m4 ?_; intro q0 q1 q2 q3
  replace K := hide ((unhide K).trans k3)
  have z4 := k3.size
  clear k3
  clear g1 g2
  go_wp2_with fail
  refine (is_nan_inf n1 _).mono ?_
  rintro e w5 ⟨rfl, k5⟩
  revert qf0 qf1 qf2 qf3; refine k5.l4 q0 q1 q2 q3 ?_; intro qf0 qf1 qf2 qf3
  revert q0 q1 q2 q3; refine k5.m4 ?_; intro q0 q1 q2 q3
  replace K := hide ((unhide K).trans k5)
  have z6 := k5.size
  clear k5
  go_wp2_with fail
  refine (is_nan_nan _).mono ?_
  rintro e w7 ⟨rfl, k7⟩
  revert qf0 qf1 qf2 qf3; refine k7.l4 q0 q1 q2 q3 ?_; intro qf0 qf1 qf2 qf3
  revert q0 q1 q2 q3; refine k7.m4 ?_; intro q0 q1 q2 q3
  replace K := hide ((unhide K).trans k7)
  have z8 := k7.size
  clear k7
  have KF := hide (((((unhide K).setNew (p := ⟨w.heap.size, 0, none⟩) (by simp) (.int .i64 3)).setNew (p := ⟨w.heap.size, 1, none⟩) (by simp) (.bool false)).setNew (p := ⟨w.heap.size, 2, none⟩) (by simp) (.int .i64 0)).setNew (p := ⟨w.heap.size, 3, none⟩) (by simp) (.int .i64 0))
  clear K
  try go_wp2_with fail
  exact bodyPost_ret (v := .tuple #[.agg #[.int .i64 3, .bool false, .int .i64 0, .int .i64 0], .int .i64 0]) (by simp [results, Tryz.results40, go_sem, q0, q1, q2, q3]) rfl ⟨by rw [unhide FQ], unhide KF⟩

set_option maxHeartbeats 2000000 in
theorem mulI_nan_num (n2 : Bool) (m2 e2 : Int) (a12 : -1074 ≤ e2) (a22 : e2 ≤ 971) (a32 : 1 ≤ m2) (a42 : m2 ≤ 9007199254740991) (mode : Int) (hm0 : 0 ≤ mode) (hm4 : mode ≤ 4) (w : World) :
    Calls Tryz.prog 40 #[.iface 115 (.agg #[.bool false]), .iface 113 (.agg #[.bool n2, .int .i64 m2, .int .i64 e2]), .int .i64 mode] w fun e' w' => e' = .returned (.tuple #[flq (mulQ 3 false 0 0 1 n2 m2 e2 mode).1, .int .i64 (mulQ 3 false 0 0 1 n2 m2 e2 mode).2]) ∧ Kept 0 0 w w' := by
  obtain ⟨Q, hQ⟩ : ∃ q, mulQ 3 false 0 0 1 n2 m2 e2 mode = q := ⟨_, rfl⟩
  rw [hQ]
  have HQ := hide hQ
  clear hQ
  have FQ : Hid (Q = ((3, false, 0, 0), 0)) := by show _ = _; rw [← unhide HQ]; unfold mulQ; simp
  have g1 := fun w => hs_nan w
  have g2 := fun w => hs_num n2 m2 e2 w
  obtain ⟨Wn, hn0⟩ : ∃ wz, wz = (w.alloc (.cells #[.int .i64 0, .bool false, .int .i64 0, .int .i64 0] 24)) := ⟨_, rfl⟩
  have k0 : Kept 0 0 w Wn := by rw [hn0]; exact ((Kept.refl 0 0 w).alloc _)
  obtain ⟨q0, q1, q2, q3, qf0, qf1, qf2, qf3⟩ := new4 hn0 (n := w.heap.size) (by simp)
  have s0 : Wn.heap.size = w.heap.size + 1 := by rw [hn0]; exact by simp
  subst hn0
  have K := hide (k0)
  clear k0
  have S0 := hide s0
  clear s0
  go_enter Tryz.func40, Tryz.ntmps40
  go_wp2_with fail
  generalize (w.alloc (.cells #[.int .i64 0, .bool false, .int .i64 0, .int .i64 0] 24)) = W at *
  refine (hasSign_any false _).mono ?_
  rintro e w1 ⟨rfl, k1⟩
  revert qf0 qf1 qf2 qf3; refine k1.l4 q0 q1 q2 q3 ?_; intro qf0 qf1 qf2 qf3
  revert q0 q1 q2 q3; refine k1.m4 ?_; intro q0 q1 q2 q3
  replace K := hide ((unhide K).trans k1)
  have z2 := k1.size
  clear k1
  go_wp2_with fail
  refine (hasSign_any n2 _).mono ?_
  rintro e w3 ⟨rfl, k3⟩
  revert qf0 qf1 qf2 qf3; refine k3.l4 q0 q1 q2 q3 ?_; intro qf0 qf1 qf2 qf3
  revert q0 q1 q2 q3; refine k3.m4 ?_; intro q0 q1 q2 q3
  replace K := hide ((unhide K).trans k3)
  have z4 := k3.size
  clear k3
  clear g1 g2
  go_wp2_with fail
  refine (is_nan_nan _).mono ?_
  rintro e w5 ⟨rfl, k5⟩
  revert qf0 qf1 qf2 qf3; refine k5.l4 q0 q1 q2 q3 ?_; intro qf0 qf1 qf2 qf3
  revert q0 q1 q2 q3; refine k5.m4 ?_; intro q0 q1 q2 q3
  replace K := hide ((unhide K).trans k5)
  have z6 := k5.size
  clear k5
  have KF := hide (((((unhide K).setNew (p := ⟨w.heap.size, 0, none⟩) (by simp) (.int .i64 3)).setNew (p := ⟨w.heap.size, 1, none⟩) (by simp) (.bool false)).setNew (p := ⟨w.heap.size, 2, none⟩) (by simp) (.int .i64 0)).setNew (p := ⟨w.heap.size, 3, none⟩) (by simp) (.int .i64 0))
  clear K
  try go_wp2_with fail
  exact bodyPost_ret (v := .tuple #[.agg #[.int .i64 3, .bool false, .int .i64 0, .int .i64 0], .int .i64 0]) (by simp [results, Tryz.results40, go_sem, q0, q1, q2, q3]) rfl ⟨by rw [unhide FQ], unhide KF⟩

set_option maxHeartbeats 2000000 in
theorem mulI_nan_nought (n2 : Bool) (mode : Int) (hm0 : 0 ≤ mode) (hm4 : mode ≤ 4) (w : World) :
    Calls Tryz.prog 40 #[.iface 115 (.agg #[.bool false]), .iface 111 (.agg #[.bool n2]), .int .i64 mode] w fun e' w' => e' = .returned (.tuple #[flq (mulQ 3 false 0 0 0 n2 0 0 mode).1, .int .i64 (mulQ 3 false 0 0 0 n2 0 0 mode).2]) ∧ Kept 0 0 w w' := by
  obtain ⟨Q, hQ⟩ : ∃ q, mulQ 3 false 0 0 0 n2 0 0 mode = q := ⟨_, rfl⟩
  rw [hQ]
  have HQ := hide hQ
  clear hQ
  have FQ : Hid (Q = ((3, false, 0, 0), 0)) := by show _ = _; rw [← unhide HQ]; unfold mulQ; simp
  have g1 := fun w => hs_nan w
  have g2 := fun w => hs_nought n2 w
  obtain ⟨Wn, hn0⟩ : ∃ wz, wz = (w.alloc (.cells #[.int .i64 0, .bool false, .int .i64 0, .int .i64 0] 24)) := ⟨_, rfl⟩
  have k0 : Kept 0 0 w Wn := by rw [hn0]; exact ((Kept.refl 0 0 w).alloc _)
  obtain ⟨q0, q1, q2, q3, qf0, qf1, qf2, qf3⟩ := new4 hn0 (n := w.heap.size) (by simp)
  have s0 : Wn.heap.size = w.heap.size + 1 := by rw [hn0]; exact by simp
  subst hn0
  have K := hide (k0)
  clear k0
  have S0 := hide s0
  clear s0
  go_enter Tryz.func40, Tryz.ntmps40
  go_wp2_with fail
  generalize (w.alloc (.cells #[.int .i64 0, .bool false, .int .i64 0, .int .i64 0] 24)) = W at *
  refine (hasSign_any false _).mono ?_
  rintro e w1 ⟨rfl, k1⟩
  revert qf0 qf1 qf2 qf3; refine k1.l4 q0 q1 q2 q3 ?_; intro qf0 qf1 qf2 qf3
  revert q0 q1 q2 q3; refine k1.m4 ?_; intro q0 q1 q2 q3
  replace K := hide ((unhide K).trans k1)
  have z2 := k1.size
  clear k1
  go_wp2_with fail
  refine (hasSign_any n2 _).mono ?_
  rintro e w3 ⟨rfl, k3⟩
  revert qf0 qf1 qf2 qf3; refine k3.l4 q0 q1 q2 q3 ?_; intro qf0 qf1 qf2 qf3
  revert q0 q1 q2 q3; refine k3.m4 ?_; intro q0 q1 q2 q3
  replace K := hide ((unhide K).trans k3)
  have z4 := k3.size
  clear k3
  clear g1 g2
  go_wp2_with fail
  refine (is_nan_nan _).mono ?_
  rintro e w5 ⟨rfl, k5⟩
  revert qf0 qf1 qf2 qf3; refine k5.l4 q0 q1 q2 q3 ?_; intro qf0 qf1 qf2 qf3
  revert q0 q1 q2 q3; refine k5.m4 ?_; intro q0 q1 q2 q3
  replace K := hide ((unhide K).trans k5)
  have z6 := k5.size
  clear k5
  have KF := hide (((((unhide K).setNew (p := ⟨w.heap.size, 0, none⟩) (by simp) (.int .i64 3)).setNew (p := ⟨w.heap.size, 1, none⟩) (by simp) (.bool false)).setNew (p := ⟨w.heap.size, 2, none⟩) (by simp) (.int .i64 0)).setNew (p := ⟨w.heap.size, 3, none⟩) (by simp) (.int .i64 0))
  clear K
  try go_wp2_with fail
  exact bodyPost_ret (v := .tuple #[.agg #[.int .i64 3, .bool false, .int .i64 0, .int .i64 0], .int .i64 0]) (by simp [results, Tryz.results40, go_sem, q0, q1, q2, q3]) rfl ⟨by rw [unhide FQ], unhide KF⟩

set_option maxHeartbeats 2000000 in
theorem mulI_nan_inf (n2 : Bool) (mode : Int) (hm0 : 0 ≤ mode) (hm4 : mode ≤ 4) (w : World) :
    Calls Tryz.prog 40 #[.iface 115 (.agg #[.bool false]), .iface 114 (.agg #[.bool n2]), .int .i64 mode] w fun e' w' => e' = .returned (.tuple #[flq (mulQ 3 false 0 0 2 n2 0 0 mode).1, .int .i64 (mulQ 3 false 0 0 2 n2 0 0 mode).2]) ∧ Kept 0 0 w w' := by
  obtain ⟨Q, hQ⟩ : ∃ q, mulQ 3 false 0 0 2 n2 0 0 mode = q := ⟨_, rfl⟩
  rw [hQ]
  have HQ := hide hQ
  clear hQ
  have FQ : Hid (Q = ((3, false, 0, 0), 0)) := by show _ = _; rw [← unhide HQ]; unfold mulQ; simp
  have g1 := fun w => hs_nan w
  have g2 := fun w => hs_inf n2 w
  obtain ⟨Wn, hn0⟩ : ∃ wz, wz = (w.alloc (.cells #[.int .i64 0, .bool false, .int .i64 0, .int .i64 0] 24)) := ⟨_, rfl⟩
  have k0 : Kept 0 0 w Wn := by rw [hn0]; exact ((Kept.refl 0 0 w).alloc _)
  obtain ⟨q0, q1, q2, q3, qf0, qf1, qf2, qf3⟩ := new4 hn0 (n := w.heap.size) (by simp)
  have s0 : Wn.heap.size = w.heap.size + 1 := by rw [hn0]; exact by simp
  subst hn0
  have K := hide (k0)
  clear k0
  have S0 := hide s0
  clear s0
  go_enter Tryz.func40, Tryz.ntmps40
  go_wp2_with fail
  generalize (w.alloc (.cells #[.int .i64 0, .bool false, .int .i64 0, .int .i64 0] 24)) = W at *
  refine (hasSign_any false _).mono ?_
  rintro e w1 ⟨rfl, k1⟩
  revert qf0 qf1 qf2 qf3; refine k1.l4 q0 q1 q2 q3 ?_; intro qf0 qf1 qf2 qf3
  revert q0 q1 q2 q3; refine k1.m4 ?_; intro q0 q1 q2 q3
  replace K := hide ((unhide K).trans k1)
  have z2 := k1.size
  clear k1
  go_wp2_with fail
  refine (hasSign_any n2 _).mono ?_
  rintro e w3 ⟨rfl, k3⟩
  revert qf0 qf1 qf2 qf3; refine k3.l4 q0 q1 q2 q3 ?_; intro qf0 qf1 qf2 qf3
  revert q0 q1 q2 q3; refine k3.m4 ?_; intro q0 q1 q2 q3
  replace K := hide ((unhide K).trans k3)
  have z4 := k3.size
  clear k3
  clear g1 g2
  go_wp2_with fail
  refine (is_nan_nan _).mono ?_
  rintro e w5 ⟨rfl, k5⟩
  revert qf0 qf1 qf2 qf3; refine k5.l4 q0 q1 q2 q3 ?_; intro qf0 qf1 qf2 qf3
  revert q0 q1 q2 q3; refine k5.m4 ?_; intro q0 q1 q2 q3
  replace K := hide ((unhide K).trans k5)
  have z6 := k5.size
  clear k5
  have KF := hide (((((unhide K).setNew (p := ⟨w.heap.size, 0, none⟩) (by simp) (.int .i64 3)).setNew (p := ⟨w.heap.size, 1, none⟩) (by simp) (.bool false)).setNew (p := ⟨w.heap.size, 2, none⟩) (by simp) (.int .i64 0)).setNew (p := ⟨w.heap.size, 3, none⟩) (by simp) (.int .i64 0))
  clear K
  try go_wp2_with fail
  exact bodyPost_ret (v := .tuple #[.agg #[.int .i64 3, .bool false, .int .i64 0, .int .i64 0], .int .i64 0]) (by simp [results, Tryz.results40, go_sem, q0, q1, q2, q3]) rfl ⟨by rw [unhide FQ], unhide KF⟩

set_option maxHeartbeats 2000000 in
theorem mulI_nan_nan (mode : Int) (hm0 : 0 ≤ mode) (hm4 : mode ≤ 4) (w : World) :
    Calls Tryz.prog 40 #[.iface 115 (.agg #[.bool false]), .iface 115 (.agg #[.bool false]), .int .i64 mode] w fun e' w' => e' = .returned (.tuple #[flq (mulQ 3 false 0 0 3 false 0 0 mode).1, .int .i64 (mulQ 3 false 0 0 3 false 0 0 mode).2]) ∧ Kept 0 0 w w' := by
  obtain ⟨Q, hQ⟩ : ∃ q, mulQ 3 false 0 0 3 false 0 0 mode = q := ⟨_, rfl⟩
  rw [hQ]
  have HQ := hide hQ
  clear hQ
  have FQ : Hid (Q = ((3, false, 0, 0), 0)) := by show _ = _; rw [← unhide HQ]; unfold mulQ; simp
  have g1 := fun w => hs_nan w
  have g2 := fun w => hs_nan w
  obtain ⟨Wn, hn0⟩ : ∃ wz, wz = (w.alloc (.cells #[.int .i64 0, .bool false, .int .i64 0, .int .i64 0] 24)) := ⟨_, rfl⟩
  have k0 : Kept 0 0 w Wn := by rw [hn0]; exact ((Kept.refl 0 0 w).alloc _)
  obtain ⟨q0, q1, q2, q3, qf0, qf1, qf2, qf3⟩ := new4 hn0 (n := w.heap.size) (by simp)
  have s0 : Wn.heap.size = w.heap.size + 1 := by rw [hn0]; exact by simp
  subst hn0
  have K := hide (k0)
  clear k0
  have S0 := hide s0
  clear s0
  go_enter Tryz.func40, Tryz.ntmps40
  go_wp2_with fail
  generalize (w.alloc (.cells #[.int .i64 0, .bool false, .int .i64 0, .int .i64 0] 24)) = W at *
  refine (hasSign_any false _).mono ?_
  rintro e w1 ⟨rfl, k1⟩
  revert qf0 qf1 qf2 qf3; refine k1.l4 q0 q1 q2 q3 ?_; intro qf0 qf1 qf2 qf3
  revert q0 q1 q2 q3; refine k1.m4 ?_; intro q0 q1 q2 q3
  replace K := hide ((unhide K).trans k1)
  have z2 := k1.size
  clear k1
  go_wp2_with fail
  refine (hasSign_any false _).mono ?_
  rintro e w3 ⟨rfl, k3⟩
  revert qf0 qf1 qf2 qf3; refine k3.l4 q0 q1 q2 q3 ?_; intro qf0 qf1 qf2 qf3
  revert q0 q1 q2 q3; refine k3.m4 ?_; intro q0 q1 q2 q3
  replace K := hide ((unhide K).trans k3)
  have z4 := k3.size
  clear k3
  clear g1 g2
  go_wp2_with fail
  refine (is_nan_nan _).mono ?_
  rintro e w5 ⟨rfl, k5⟩
  revert qf0 qf1 qf2 qf3; refine k5.l4 q0 q1 q2 q3 ?_; intro qf0 qf1 qf2 qf3
  revert q0 q1 q2 q3; refine k5.m4 ?_; intro q0 q1 q2 q3
  replace K := hide ((unhide K).trans k5)
  have z6 := k5.size
  clear k5
  have KF := hide (((((unhide K).setNew (p := ⟨w.heap.size, 0, none⟩) (by simp) (.int .i64 3)).setNew (p := ⟨w.heap.size, 1, none⟩) (by simp) (.bool false)).setNew (p := ⟨w.heap.size, 2, none⟩) (by simp) (.int .i64 0)).setNew (p := ⟨w.heap.size, 3, none⟩) (by simp) (.int .i64 0))
  clear K
  try go_wp2_with fail
  exact bodyPost_ret (v := .tuple #[.agg #[.int .i64 3, .bool false, .int .i64 0, .int .i64 0], .int .i64 0]) (by simp [results, Tryz.results40, go_sem, q0, q1, q2, q3]) rfl ⟨by rw [unhide FQ], unhide KF⟩

end Go.Proofs.YtepehpkmejjhiaaGreatDoor

