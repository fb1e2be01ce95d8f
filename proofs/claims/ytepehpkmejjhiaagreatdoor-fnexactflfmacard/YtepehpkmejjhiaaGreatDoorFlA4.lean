/-
  Sums of floats: the program's addFloats.
-/
import Derived.Test.YtepehpkmejjhiaaGreatDoorFlA3
import Derived.Deep.RegionHeld3
import Derived.Deep.DeepCutAuto
namespace Go.Proofs.YtepehpkmejjhiaaGreatDoor
open Go.RowKit
set_option linter.unusedVariables false
set_option maxRecDepth 8000
set_option linter.unusedSimpArgs false

set_option maxHeartbeats 400000 in
theorem badF_impl (w : World) :
    Calls Tryz.prog 36 #[] w fun e w' => e = .returned (.tuple #[flv 3 false 0 0, .int .i64 16]) ∧ Kept 0 0 w w' := by
  go_enter Tryz.func36, Tryz.ntmps36
  go_wp2_with fail
  exact bodyPost_ret (v := .tuple #[flv 3 false 0 0, .int .i64 16]) (by simp [results, Tryz.results36, go_sem]) rfl ⟨rfl, (Kept.refl 0 0 w).alloc _⟩

theorem inv_inf_t (n : Bool) (w : World) : (method 296 114 (.agg #[.bool n]) "loop.example/g00382/impl.told").run Tryz.prog w = .ok (184, .agg #[.bool n]) w := by kernel_rfl

set_option maxHeartbeats 400000 in
theorem told_inf_t (n : Bool) (w : World) :
    Calls Tryz.prog 184 #[.agg #[.bool n]] w fun r w' => r = .returned (flv 2 n 0 0) ∧ Kept 0 0 w w' := by
  go_enter Tryz.func184, Tryz.ntmps184
  go_wp2
  exact bodyPost_ret (v := flv 2 n 0 0) (by simp [results, Tryz.results184, go_sem]) rfl ⟨rfl, by repeat first | exact Kept.refl 0 0 _ | apply Kept.alloc⟩

set_option maxHeartbeats 2000000 in
theorem addI_inf_num (n1 : Bool) (n2 : Bool) (m2 e2 : Int) (a12 : -1074 ≤ e2) (a22 : e2 ≤ 971) (a32 : 1 ≤ m2) (a42 : m2 ≤ 9007199254740991) (mode : Int) (hm0 : 0 ≤ mode) (hm4 : mode ≤ 4) (w : World) :
    Calls Tryz.prog 39 #[.iface 114 (.agg #[.bool n1]), .iface 113 (.agg #[.bool n2, .int .i64 m2, .int .i64 e2]), .int .i64 mode] w fun e' w' => e' = .returned (.tuple #[flq (addQ 2 n1 0 0 1 n2 m2 e2 mode).1, .int .i64 (addQ 2 n1 0 0 1 n2 m2 e2 mode).2]) ∧ Kept 0 0 w w' := by
  obtain ⟨Q, hQ⟩ : ∃ q, addQ 2 n1 0 0 1 n2 m2 e2 mode = q := ⟨_, rfl⟩
  rw [hQ]
  have HQ := hide hQ
  clear hQ
  have FQ : Hid (Q = ((2, n1, 0, 0), 0)) := by show _ = _; rw [← unhide HQ]; unfold addQ; simp
  have g1 := fun w => hs_inf n1 w
  have i1 := fun w => inv_inf_t n1 w
  obtain ⟨Wn, hn0⟩ : ∃ wz, wz = (w.alloc (.cells #[.int .i64 0, .bool false, .int .i64 0, .int .i64 0] 24)) := ⟨_, rfl⟩
  have k0 : Kept 0 0 w Wn := by rw [hn0]; exact ((Kept.refl 0 0 w).alloc _)
  obtain ⟨q0, q1, q2, q3, qf0, qf1, qf2, qf3⟩ := new4 hn0 (n := w.heap.size) (by simp)
  have s0 : Wn.heap.size = w.heap.size + 1 := by rw [hn0]; exact by simp
  subst hn0
  have K := hide (k0)
  clear k0
  have S0 := hide s0
  clear s0
  go_enter Tryz.func39, Tryz.ntmps39
  go_wp2_with fail
  generalize (w.alloc (.cells #[.int .i64 0, .bool false, .int .i64 0, .int .i64 0] 24)) = W at *
  refine (is_nan_inf n1 _).mono ?_
  rintro e w1 ⟨rfl, k1⟩
  revert qf0 qf1 qf2 qf3; refine k1.l4 q0 q1 q2 q3 ?_; intro qf0 qf1 qf2 qf3
  revert q0 q1 q2 q3; refine k1.m4 ?_; intro q0 q1 q2 q3
  replace K := hide ((unhide K).trans k1)
  have z2 := k1.size
  clear k1
  go_wp2_with fail
  refine (is_nan_num n2 m2 e2 _).mono ?_
  rintro e w3 ⟨rfl, k3⟩
  revert qf0 qf1 qf2 qf3; refine k3.l4 q0 q1 q2 q3 ?_; intro qf0 qf1 qf2 qf3
  revert q0 q1 q2 q3; refine k3.m4 ?_; intro q0 q1 q2 q3
  replace K := hide ((unhide K).trans k3)
  have z4 := k3.size
  clear k3
  go_wp2_with fail
  refine (is_inf_inf n1 _).mono ?_
  rintro e w5 ⟨rfl, k5⟩
  revert qf0 qf1 qf2 qf3; refine k5.l4 q0 q1 q2 q3 ?_; intro qf0 qf1 qf2 qf3
  revert q0 q1 q2 q3; refine k5.m4 ?_; intro q0 q1 q2 q3
  replace K := hide ((unhide K).trans k5)
  have z6 := k5.size
  clear k5
  go_wp2_with fail
  refine (is_inf_num n2 m2 e2 _).mono ?_
  rintro e w7 ⟨rfl, k7⟩
  revert qf0 qf1 qf2 qf3; refine k7.l4 q0 q1 q2 q3 ?_; intro qf0 qf1 qf2 qf3
  revert q0 q1 q2 q3; refine k7.m4 ?_; intro q0 q1 q2 q3
  replace K := hide ((unhide K).trans k7)
  have z8 := k7.size
  clear k7
  go_wp2_with fail
  refine (is_inf_inf n1 _).mono ?_
  rintro e w9 ⟨rfl, k9⟩
  revert qf0 qf1 qf2 qf3; refine k9.l4 q0 q1 q2 q3 ?_; intro qf0 qf1 qf2 qf3
  revert q0 q1 q2 q3; refine k9.m4 ?_; intro q0 q1 q2 q3
  replace K := hide ((unhide K).trans k9)
  have z10 := k9.size
  clear k9
  go_wp2_with fail
  refine (told_inf_t n1 _).mono ?_
  rintro e w11 ⟨rfl, k11⟩
  revert qf0 qf1 qf2 qf3; refine k11.l4 q0 q1 q2 q3 ?_; intro qf0 qf1 qf2 qf3
  revert q0 q1 q2 q3; refine k11.m4 ?_; intro q0 q1 q2 q3
  replace K := hide ((unhide K).trans k11)
  have z12 := k11.size
  clear k11
  have KF := hide (((((unhide K).setNew (p := ⟨w.heap.size, 0, none⟩) (by simp) (.int .i64 2)).setNew (p := ⟨w.heap.size, 1, none⟩) (by simp) (.bool n1)).setNew (p := ⟨w.heap.size, 2, none⟩) (by simp) (.int .i64 0)).setNew (p := ⟨w.heap.size, 3, none⟩) (by simp) (.int .i64 0))
  clear K
  try go_wp2_with fail
  exact bodyPost_ret (v := .tuple #[.agg #[.int .i64 2, .bool n1, .int .i64 0, .int .i64 0], .int .i64 0]) (by simp [results, Tryz.results39, go_sem, q0, q1, q2, q3]) rfl ⟨by rw [unhide FQ], unhide KF⟩

set_option maxHeartbeats 2000000 in
theorem addI_inf_nought (n1 : Bool) (n2 : Bool) (mode : Int) (hm0 : 0 ≤ mode) (hm4 : mode ≤ 4) (w : World) :
    Calls Tryz.prog 39 #[.iface 114 (.agg #[.bool n1]), .iface 111 (.agg #[.bool n2]), .int .i64 mode] w fun e' w' => e' = .returned (.tuple #[flq (addQ 2 n1 0 0 0 n2 0 0 mode).1, .int .i64 (addQ 2 n1 0 0 0 n2 0 0 mode).2]) ∧ Kept 0 0 w w' := by
  obtain ⟨Q, hQ⟩ : ∃ q, addQ 2 n1 0 0 0 n2 0 0 mode = q := ⟨_, rfl⟩
  rw [hQ]
  have HQ := hide hQ
  clear hQ
  have FQ : Hid (Q = ((2, n1, 0, 0), 0)) := by show _ = _; rw [← unhide HQ]; unfold addQ; simp
  have g1 := fun w => hs_inf n1 w
  have i1 := fun w => inv_inf_t n1 w
  obtain ⟨Wn, hn0⟩ : ∃ wz, wz = (w.alloc (.cells #[.int .i64 0, .bool false, .int .i64 0, .int .i64 0] 24)) := ⟨_, rfl⟩
  have k0 : Kept 0 0 w Wn := by rw [hn0]; exact ((Kept.refl 0 0 w).alloc _)
  obtain ⟨q0, q1, q2, q3, qf0, qf1, qf2, qf3⟩ := new4 hn0 (n := w.heap.size) (by simp)
  have s0 : Wn.heap.size = w.heap.size + 1 := by rw [hn0]; exact by simp
  subst hn0
  have K := hide (k0)
  clear k0
  have S0 := hide s0
  clear s0
  go_enter Tryz.func39, Tryz.ntmps39
  go_wp2_with fail
  generalize (w.alloc (.cells #[.int .i64 0, .bool false, .int .i64 0, .int .i64 0] 24)) = W at *
  refine (is_nan_inf n1 _).mono ?_
  rintro e w1 ⟨rfl, k1⟩
  revert qf0 qf1 qf2 qf3; refine k1.l4 q0 q1 q2 q3 ?_; intro qf0 qf1 qf2 qf3
  revert q0 q1 q2 q3; refine k1.m4 ?_; intro q0 q1 q2 q3
  replace K := hide ((unhide K).trans k1)
  have z2 := k1.size
  clear k1
  go_wp2_with fail
  refine (is_nan_nought n2 _).mono ?_
  rintro e w3 ⟨rfl, k3⟩
  revert qf0 qf1 qf2 qf3; refine k3.l4 q0 q1 q2 q3 ?_; intro qf0 qf1 qf2 qf3
  revert q0 q1 q2 q3; refine k3.m4 ?_; intro q0 q1 q2 q3
  replace K := hide ((unhide K).trans k3)
  have z4 := k3.size
  clear k3
  go_wp2_with fail
  refine (is_inf_inf n1 _).mono ?_
  rintro e w5 ⟨rfl, k5⟩
  revert qf0 qf1 qf2 qf3; refine k5.l4 q0 q1 q2 q3 ?_; intro qf0 qf1 qf2 qf3
  revert q0 q1 q2 q3; refine k5.m4 ?_; intro q0 q1 q2 q3
  replace K := hide ((unhide K).trans k5)
  have z6 := k5.size
  clear k5
  go_wp2_with fail
  refine (is_inf_nought n2 _).mono ?_
  rintro e w7 ⟨rfl, k7⟩
  revert qf0 qf1 qf2 qf3; refine k7.l4 q0 q1 q2 q3 ?_; intro qf0 qf1 qf2 qf3
  revert q0 q1 q2 q3; refine k7.m4 ?_; intro q0 q1 q2 q3
  replace K := hide ((unhide K).trans k7)
  have z8 := k7.size
  clear k7
  go_wp2_with fail
  refine (is_inf_inf n1 _).mono ?_
  rintro e w9 ⟨rfl, k9⟩
  revert qf0 qf1 qf2 qf3; refine k9.l4 q0 q1 q2 q3 ?_; intro qf0 qf1 qf2 qf3
  revert q0 q1 q2 q3; refine k9.m4 ?_; intro q0 q1 q2 q3
  replace K := hide ((unhide K).trans k9)
  have z10 := k9.size
  clear k9
  go_wp2_with fail
  refine (told_inf_t n1 _).mono ?_
  rintro e w11 ⟨rfl, k11⟩
  revert qf0 qf1 qf2 qf3; refine k11.l4 q0 q1 q2 q3 ?_; intro qf0 qf1 qf2 qf3
  revert q0 q1 q2 q3; refine k11.m4 ?_; intro q0 q1 q2 q3
  replace K := hide ((unhide K).trans k11)
  have z12 := k11.size
  clear k11
  have KF := hide (((((unhide K).setNew (p := ⟨w.heap.size, 0, none⟩) (by simp) (.int .i64 2)).setNew (p := ⟨w.heap.size, 1, none⟩) (by simp) (.bool n1)).setNew (p := ⟨w.heap.size, 2, none⟩) (by simp) (.int .i64 0)).setNew (p := ⟨w.heap.size, 3, none⟩) (by simp) (.int .i64 0))
  clear K
  try go_wp2_with fail
  exact bodyPost_ret (v := .tuple #[.agg #[.int .i64 2, .bool n1, .int .i64 0, .int .i64 0], .int .i64 0]) (by simp [results, Tryz.results39, go_sem, q0, q1, q2, q3]) rfl ⟨by rw [unhide FQ], unhide KF⟩

set_option maxHeartbeats 2000000 in
theorem addI_inf_inf_true_true (mode : Int) (hm0 : 0 ≤ mode) (hm4 : mode ≤ 4) (w : World) :
    Calls Tryz.prog 39 #[.iface 114 (.agg #[.bool true]), .iface 114 (.agg #[.bool true]), .int .i64 mode] w fun e' w' => e' = .returned (.tuple #[flq (addQ 2 true 0 0 2 true 0 0 mode).1, .int .i64 (addQ 2 true 0 0 2 true 0 0 mode).2]) ∧ Kept 0 0 w w' := by
  obtain ⟨Q, hQ⟩ : ∃ q, addQ 2 true 0 0 2 true 0 0 mode = q := ⟨_, rfl⟩
  rw [hQ]
  have HQ := hide hQ
  clear hQ
  have FQ : Hid (Q = ((2, true, 0, 0), 0)) := by show _ = _; rw [← unhide HQ]; unfold addQ; simp
  have g1 := fun w => hs_inf true w
  have i1 := fun w => inv_inf_t true w
  have g2 := fun w => hs_inf true w
  have i2 := fun w => inv_inf_t true w
  obtain ⟨Wn, hn0⟩ : ∃ wz, wz = (w.alloc (.cells #[.int .i64 0, .bool false, .int .i64 0, .int .i64 0] 24)) := ⟨_, rfl⟩
  have k0 : Kept 0 0 w Wn := by rw [hn0]; exact ((Kept.refl 0 0 w).alloc _)
  obtain ⟨q0, q1, q2, q3, qf0, qf1, qf2, qf3⟩ := new4 hn0 (n := w.heap.size) (by simp)
  have s0 : Wn.heap.size = w.heap.size + 1 := by rw [hn0]; exact by simp
  subst hn0
  have K := hide (k0)
  clear k0
  have S0 := hide s0
  clear s0
  go_enter Tryz.func39, Tryz.ntmps39
  go_wp2_with fail
  generalize (w.alloc (.cells #[.int .i64 0, .bool false, .int .i64 0, .int .i64 0] 24)) = W at *
  refine (is_nan_inf true _).mono ?_
  rintro e w1 ⟨rfl, k1⟩
  revert qf0 qf1 qf2 qf3; refine k1.l4 q0 q1 q2 q3 ?_; intro qf0 qf1 qf2 qf3
  revert q0 q1 q2 q3; refine k1.m4 ?_; intro q0 q1 q2 q3
  replace K := hide ((unhide K).trans k1)
  have z2 := k1.size
  clear k1
  go_wp2_with fail
  refine (is_nan_inf true _).mono ?_
  rintro e w3 ⟨rfl, k3⟩
  revert qf0 qf1 qf2 qf3; refine k3.l4 q0 q1 q2 q3 ?_; intro qf0 qf1 qf2 qf3
  revert q0 q1 q2 q3; refine k3.m4 ?_; intro q0 q1 q2 q3
  replace K := hide ((unhide K).trans k3)
  have z4 := k3.size
  clear k3
  go_wp2_with fail
  refine (is_inf_inf true _).mono ?_
  rintro e w5 ⟨rfl, k5⟩
  revert qf0 qf1 qf2 qf3; refine k5.l4 q0 q1 q2 q3 ?_; intro qf0 qf1 qf2 qf3
  revert q0 q1 q2 q3; refine k5.m4 ?_; intro q0 q1 q2 q3
  replace K := hide ((unhide K).trans k5)
  have z6 := k5.size
  clear k5
  go_wp2_with fail
  refine (is_inf_inf true _).mono ?_
  rintro e w7 ⟨rfl, k7⟩
  revert qf0 qf1 qf2 qf3; refine k7.l4 q0 q1 q2 q3 ?_; intro qf0 qf1 qf2 qf3
  revert q0 q1 q2 q3; refine k7.m4 ?_; intro q0 q1 q2 q3
  replace K := hide ((unhide K).trans k7)
  have z8 := k7.size
  clear k7
  go_wp2_with fail
  refine (hasSign_any true _).mono ?_
  rintro e w9 ⟨rfl, k9⟩
  revert qf0 qf1 qf2 qf3; refine k9.l4 q0 q1 q2 q3 ?_; intro qf0 qf1 qf2 qf3
  revert q0 q1 q2 q3; refine k9.m4 ?_; intro q0 q1 q2 q3
  replace K := hide ((unhide K).trans k9)
  have z10 := k9.size
  clear k9
  go_wp2_with fail
  refine (hasSign_any true _).mono ?_
  rintro e w11 ⟨rfl, k11⟩
  revert qf0 qf1 qf2 qf3; refine k11.l4 q0 q1 q2 q3 ?_; intro qf0 qf1 qf2 qf3
  revert q0 q1 q2 q3; refine k11.m4 ?_; intro q0 q1 q2 q3
  replace K := hide ((unhide K).trans k11)
  have z12 := k11.size
  clear k11
  go_wp2_with fail
  refine (is_inf_inf true _).mono ?_
  rintro e w13 ⟨rfl, k13⟩
  revert qf0 qf1 qf2 qf3; refine k13.l4 q0 q1 q2 q3 ?_; intro qf0 qf1 qf2 qf3
  revert q0 q1 q2 q3; refine k13.m4 ?_; intro q0 q1 q2 q3
  replace K := hide ((unhide K).trans k13)
  have z14 := k13.size
  clear k13
  go_wp2_with fail
  refine (told_inf_t true _).mono ?_
  rintro e w15 ⟨rfl, k15⟩
  revert qf0 qf1 qf2 qf3; refine k15.l4 q0 q1 q2 q3 ?_; intro qf0 qf1 qf2 qf3
  revert q0 q1 q2 q3; refine k15.m4 ?_; intro q0 q1 q2 q3
  replace K := hide ((unhide K).trans k15)
  have z16 := k15.size
  clear k15
  have KF := hide (((((unhide K).setNew (p := ⟨w.heap.size, 0, none⟩) (by simp) (.int .i64 2)).setNew (p := ⟨w.heap.size, 1, none⟩) (by simp) (.bool true)).setNew (p := ⟨w.heap.size, 2, none⟩) (by simp) (.int .i64 0)).setNew (p := ⟨w.heap.size, 3, none⟩) (by simp) (.int .i64 0))
  clear K
  try go_wp2_with fail
  exact bodyPost_ret (v := .tuple #[.agg #[.int .i64 2, .bool true, .int .i64 0, .int .i64 0], .int .i64 0]) (by simp [results, Tryz.results39, go_sem, q0, q1, q2, q3]) rfl ⟨by rw [unhide FQ], unhide KF⟩

set_option maxHeartbeats 2000000 in
theorem addI_inf_inf_true_false (mode : Int) (hm0 : 0 ≤ mode) (hm4 : mode ≤ 4) (w : World) :
    Calls Tryz.prog 39 #[.iface 114 (.agg #[.bool true]), .iface 114 (.agg #[.bool false]), .int .i64 mode] w fun e' w' => e' = .returned (.tuple #[flq (addQ 2 true 0 0 2 false 0 0 mode).1, .int .i64 (addQ 2 true 0 0 2 false 0 0 mode).2]) ∧ Kept 0 0 w w' := by
  obtain ⟨Q, hQ⟩ : ∃ q, addQ 2 true 0 0 2 false 0 0 mode = q := ⟨_, rfl⟩
  rw [hQ]
  have HQ := hide hQ
  clear hQ
  have FQ : Hid (Q = ((3, false, 0, 0), 16)) := by show _ = _; rw [← unhide HQ]; unfold addQ; simp
  have g1 := fun w => hs_inf true w
  have i1 := fun w => inv_inf_t true w
  have g2 := fun w => hs_inf false w
  have i2 := fun w => inv_inf_t false w
  obtain ⟨Wn, hn0⟩ : ∃ wz, wz = (w.alloc (.cells #[.int .i64 0, .bool false, .int .i64 0, .int .i64 0] 24)) := ⟨_, rfl⟩
  have k0 : Kept 0 0 w Wn := by rw [hn0]; exact ((Kept.refl 0 0 w).alloc _)
  obtain ⟨q0, q1, q2, q3, qf0, qf1, qf2, qf3⟩ := new4 hn0 (n := w.heap.size) (by simp)
  have s0 : Wn.heap.size = w.heap.size + 1 := by rw [hn0]; exact by simp
  subst hn0
  have K := hide (k0)
  clear k0
  have S0 := hide s0
  clear s0
  go_enter Tryz.func39, Tryz.ntmps39
  go_wp2_with fail
  generalize (w.alloc (.cells #[.int .i64 0, .bool false, .int .i64 0, .int .i64 0] 24)) = W at *
  refine (is_nan_inf true _).mono ?_
  rintro e w1 ⟨rfl, k1⟩
  revert qf0 qf1 qf2 qf3; refine k1.l4 q0 q1 q2 q3 ?_; intro qf0 qf1 qf2 qf3
  revert q0 q1 q2 q3; refine k1.m4 ?_; intro q0 q1 q2 q3
  replace K := hide ((unhide K).trans k1)
  have z2 := k1.size
  clear k1
  go_wp2_with fail
  refine (is_nan_inf false _).mono ?_
  rintro e w3 ⟨rfl, k3⟩
  revert qf0 qf1 qf2 qf3; refine k3.l4 q0 q1 q2 q3 ?_; intro qf0 qf1 qf2 qf3
  revert q0 q1 q2 q3; refine k3.m4 ?_; intro q0 q1 q2 q3
  replace K := hide ((unhide K).trans k3)
  have z4 := k3.size
  clear k3
  go_wp2_with fail
  refine (is_inf_inf true _).mono ?_
  rintro e w5 ⟨rfl, k5⟩
  revert qf0 qf1 qf2 qf3; refine k5.l4 q0 q1 q2 q3 ?_; intro qf0 qf1 qf2 qf3
  revert q0 q1 q2 q3; refine k5.m4 ?_; intro q0 q1 q2 q3
  replace K := hide ((unhide K).trans k5)
  have z6 := k5.size
  clear k5
  go_wp2_with fail
  refine (is_inf_inf false _).mono ?_
  rintro e w7 ⟨rfl, k7⟩
  revert qf0 qf1 qf2 qf3; refine k7.l4 q0 q1 q2 q3 ?_; intro qf0 qf1 qf2 qf3
  revert q0 q1 q2 q3; refine k7.m4 ?_; intro q0 q1 q2 q3
  replace K := hide ((unhide K).trans k7)
  have z8 := k7.size
  clear k7
  go_wp2_with fail
  refine (hasSign_any true _).mono ?_
  rintro e w9 ⟨rfl, k9⟩
  revert qf0 qf1 qf2 qf3; refine k9.l4 q0 q1 q2 q3 ?_; intro qf0 qf1 qf2 qf3
  revert q0 q1 q2 q3; refine k9.m4 ?_; intro q0 q1 q2 q3
  replace K := hide ((unhide K).trans k9)
  have z10 := k9.size
  clear k9
  go_wp2_with fail
  refine (hasSign_any false _).mono ?_
  rintro e w11 ⟨rfl, k11⟩
  revert qf0 qf1 qf2 qf3; refine k11.l4 q0 q1 q2 q3 ?_; intro qf0 qf1 qf2 qf3
  revert q0 q1 q2 q3; refine k11.m4 ?_; intro q0 q1 q2 q3
  replace K := hide ((unhide K).trans k11)
  have z12 := k11.size
  clear k11
  go_wp2_with fail
  refine (badF_impl _).mono ?_
  rintro e w13 ⟨rfl, k13⟩
  revert qf0 qf1 qf2 qf3; refine k13.l4 q0 q1 q2 q3 ?_; intro qf0 qf1 qf2 qf3
  revert q0 q1 q2 q3; refine k13.m4 ?_; intro q0 q1 q2 q3
  replace K := hide ((unhide K).trans k13)
  have z14 := k13.size
  clear k13
  have KF := hide (((((unhide K).setNew (p := ⟨w.heap.size, 0, none⟩) (by simp) (.int .i64 3)).setNew (p := ⟨w.heap.size, 1, none⟩) (by simp) (.bool false)).setNew (p := ⟨w.heap.size, 2, none⟩) (by simp) (.int .i64 0)).setNew (p := ⟨w.heap.size, 3, none⟩) (by simp) (.int .i64 0))
  clear K
  try go_wp2_with fail
  exact bodyPost_ret (v := .tuple #[.agg #[.int .i64 3, .bool false, .int .i64 0, .int .i64 0], .int .i64 16]) (by simp [results, Tryz.results39, go_sem, q0, q1, q2, q3]) rfl ⟨by rw [unhide FQ], unhide KF⟩

set_option maxHeartbeats 2000000 in
theorem addI_inf_inf_false_true (mode : Int) (hm0 : 0 ≤ mode) (hm4 : mode ≤ 4) (w : World) :
    Calls Tryz.prog 39 #[.iface 114 (.agg #[.bool false]), .iface 114 (.agg #[.bool true]), .int .i64 mode] w fun e' w' => e' = .returned (.tuple #[flq (addQ 2 false 0 0 2 true 0 0 mode).1, .int .i64 (addQ 2 false 0 0 2 true 0 0 mode).2]) ∧ Kept 0 0 w w' := by
  obtain ⟨Q, hQ⟩ : ∃ q, addQ 2 false 0 0 2 true 0 0 mode = q := ⟨_, rfl⟩
  rw [hQ]
  have HQ := hide hQ
  clear hQ
  have FQ : Hid (Q = ((3, false, 0, 0), 16)) := by show _ = _; rw [← unhide HQ]; unfold addQ; simp
  have g1 := fun w => hs_inf false w
  have i1 := fun w => inv_inf_t false w
  have g2 := fun w => hs_inf true w
  have i2 := fun w => inv_inf_t true w
  obtain ⟨Wn, hn0⟩ : ∃ wz, wz = (w.alloc (.cells #[.int .i64 0, .bool false, .int .i64 0, .int .i64 0] 24)) := ⟨_, rfl⟩
  have k0 : Kept 0 0 w Wn := by rw [hn0]; exact ((Kept.refl 0 0 w).alloc _)
  obtain ⟨q0, q1, q2, q3, qf0, qf1, qf2, qf3⟩ := new4 hn0 (n := w.heap.size) (by simp)
  have s0 : Wn.heap.size = w.heap.size + 1 := by rw [hn0]; exact by simp
  subst hn0
  have K := hide (k0)
  clear k0
  have S0 := hide s0
  clear s0
  go_enter Tryz.func39, Tryz.ntmps39
  go_wp2_with fail
  generalize (w.alloc (.cells #[.int .i64 0, .bool false, .int .i64 0, .int .i64 0] 24)) = W at *
  refine (is_nan_inf false _).mono ?_
  rintro e w1 ⟨rfl, k1⟩
  revert qf0 qf1 qf2 qf3; refine k1.l4 q0 q1 q2 q3 ?_; intro qf0 qf1 qf2 qf3
  revert q0 q1 q2 q3; refine k1.m4 ?_; intro q0 q1 q2 q3
  replace K := hide ((unhide K).trans k1)
  have z2 := k1.size
  clear k1
  go_wp2_with fail
  refine (is_nan_inf true _).mono ?_
  rintro e w3 ⟨rfl, k3⟩
  revert qf0 qf1 qf2 qf3; refine k3.l4 q0 q1 q2 q3 ?_; intro qf0 qf1 qf2 qf3
  revert q0 q1 q2 q3; refine k3.m4 ?_; intro q0 q1 q2 q3
  replace K := hide ((unhide K).trans k3)
  have z4 := k3.size
  clear k3
  go_wp2_with fail
  refine (is_inf_inf false _).mono ?_
  rintro e w5 ⟨rfl, k5⟩
  revert qf0 qf1 qf2 qf3; refine k5.l4 q0 q1 q2 q3 ?_; intro qf0 qf1 qf2 qf3
  revert q0 q1 q2 q3; refine k5.m4 ?_; intro q0 q1 q2 q3
  replace K := hide ((unhide K).trans k5)
  have z6 := k5.size
  clear k5
  go_wp2_with fail
  refine (is_inf_inf true _).mono ?_
  rintro e w7 ⟨rfl, k7⟩
  revert qf0 qf1 qf2 qf3; refine k7.l4 q0 q1 q2 q3 ?_; intro qf0 qf1 qf2 qf3
  revert q0 q1 q2 q3; refine k7.m4 ?_; intro q0 q1 q2 q3
  replace K := hide ((unhide K).trans k7)
  have z8 := k7.size
  clear k7
  go_wp2_with fail
  refine (hasSign_any false _).mono ?_
  rintro e w9 ⟨rfl, k9⟩
  revert qf0 qf1 qf2 qf3; refine k9.l4 q0 q1 q2 q3 ?_; intro qf0 qf1 qf2 qf3
  revert q0 q1 q2 q3; refine k9.m4 ?_; intro q0 q1 q2 q3
  replace K := hide ((unhide K).trans k9)
  have z10 := k9.size
  clear k9
  go_wp2_with fail
  refine (hasSign_any true _).mono ?_
  rintro e w11 ⟨rfl, k11⟩
  revert qf0 qf1 qf2 qf3; refine k11.l4 q0 q1 q2 q3 ?_; intro qf0 qf1 qf2 qf3
  revert q0 q1 q2 q3; refine k11.m4 ?_; intro q0 q1 q2 q3
  replace K := hide ((unhide K).trans k11)
  have z12 := k11.size
  clear k11
  go_wp2_with fail
  refine (badF_impl _).mono ?_
  rintro e w13 ⟨rfl, k13⟩
  revert qf0 qf1 qf2 qf3; refine k13.l4 q0 q1 q2 q3 ?_; intro qf0 qf1 qf2 qf3
  revert q0 q1 q2 q3; refine k13.m4 ?_; intro q0 q1 q2 q3
  replace K := hide ((unhide K).trans k13)
  have z14 := k13.size
  clear k13
  have KF := hide (((((unhide K).setNew (p := ⟨w.heap.size, 0, none⟩) (by simp) (.int .i64 3)).setNew (p := ⟨w.heap.size, 1, none⟩) (by simp) (.bool false)).setNew (p := ⟨w.heap.size, 2, none⟩) (by simp) (.int .i64 0)).setNew (p := ⟨w.heap.size, 3, none⟩) (by simp) (.int .i64 0))
  clear K
  try go_wp2_with fail
  exact bodyPost_ret (v := .tuple #[.agg #[.int .i64 3, .bool false, .int .i64 0, .int .i64 0], .int .i64 16]) (by simp [results, Tryz.results39, go_sem, q0, q1, q2, q3]) rfl ⟨by rw [unhide FQ], unhide KF⟩

set_option maxHeartbeats 2000000 in
theorem addI_inf_inf_false_false (mode : Int) (hm0 : 0 ≤ mode) (hm4 : mode ≤ 4) (w : World) :
    Calls Tryz.prog 39 #[.iface 114 (.agg #[.bool false]), .iface 114 (.agg #[.bool false]), .int .i64 mode] w fun e' w' => e' = .returned (.tuple #[flq (addQ 2 false 0 0 2 false 0 0 mode).1, .int .i64 (addQ 2 false 0 0 2 false 0 0 mode).2]) ∧ Kept 0 0 w w' := by
  obtain ⟨Q, hQ⟩ : ∃ q, addQ 2 false 0 0 2 false 0 0 mode = q := ⟨_, rfl⟩
  rw [hQ]
  have HQ := hide hQ
  clear hQ
  have FQ : Hid (Q = ((2, false, 0, 0), 0)) := by show _ = _; rw [← unhide HQ]; unfold addQ; simp
  have g1 := fun w => hs_inf false w
  have i1 := fun w => inv_inf_t false w
  have g2 := fun w => hs_inf false w
  have i2 := fun w => inv_inf_t false w
  obtain ⟨Wn, hn0⟩ : ∃ wz, wz = (w.alloc (.cells #[.int .i64 0, .bool false, .int .i64 0, .int .i64 0] 24)) := ⟨_, rfl⟩
  have k0 : Kept 0 0 w Wn := by rw [hn0]; exact ((Kept.refl 0 0 w).alloc _)
  obtain ⟨q0, q1, q2, q3, qf0, qf1, qf2, qf3⟩ := new4 hn0 (n := w.heap.size) (by simp)
  have s0 : Wn.heap.size = w.heap.size + 1 := by rw [hn0]; exact by simp
  subst hn0
  have K := hide (k0)
  clear k0
  have S0 := hide s0
  clear s0
  go_enter Tryz.func39, Tryz.ntmps39
  go_wp2_with fail
  generalize (w.alloc (.cells #[.int .i64 0, .bool false, .int .i64 0, .int .i64 0] 24)) = W at *
  refine (is_nan_inf false _).mono ?_
  rintro e w1 ⟨rfl, k1⟩
  revert qf0 qf1 qf2 qf3; refine k1.l4 q0 q1 q2 q3 ?_; intro qf0 qf1 qf2 qf3
  revert q0 q1 q2 q3; refine k1.m4 ?_; intro q0 q1 q2 q3
  replace K := hide ((unhide K).trans k1)
  have z2 := k1.size
  clear k1
  go_wp2_with fail
  refine (is_nan_inf false _).mono ?_
  rintro e w3 ⟨rfl, k3⟩
  revert qf0 qf1 qf2 qf3; refine k3.l4 q0 q1 q2 q3 ?_; intro qf0 qf1 qf2 qf3
  revert q0 q1 q2 q3; refine k3.m4 ?_; intro q0 q1 q2 q3
  replace K := hide ((unhide K).trans k3)
  have z4 := k3.size
  clear k3
  go_wp2_with fail
  refine (is_inf_inf false _).mono ?_
  rintro e w5 ⟨rfl, k5⟩
  revert qf0 qf1 qf2 qf3; refine k5.l4 q0 q1 q2 q3 ?_; intro qf0 qf1 qf2 qf3
  revert q0 q1 q2 q3; refine k5.m4 ?_; intro q0 q1 q2 q3
  replace K := hide ((unhide K).trans k5)
  have z6 := k5.size
  clear k5
  go_wp2_with fail
  refine (is_inf_inf false _).mono ?_
  rintro e w7 ⟨rfl, k7⟩
  revert qf0 qf1 qf2 qf3; refine k7.l4 q0 q1 q2 q3 ?_; intro qf0 qf1 qf2 qf3
  revert q0 q1 q2 q3; refine k7.m4 ?_; intro q0 q1 q2 q3
  replace K := hide ((unhide K).trans k7)
  have z8 := k7.size
  clear k7
  go_wp2_with fail
  refine (hasSign_any false _).mono ?_
  rintro e w9 ⟨rfl, k9⟩
  revert qf0 qf1 qf2 qf3; refine k9.l4 q0 q1 q2 q3 ?_; intro qf0 qf1 qf2 qf3
  revert q0 q1 q2 q3; refine k9.m4 ?_; intro q0 q1 q2 q3
  replace K := hide ((unhide K).trans k9)
  have z10 := k9.size
  clear k9
  go_wp2_with fail
  refine (hasSign_any false _).mono ?_
  rintro e w11 ⟨rfl, k11⟩
  revert qf0 qf1 qf2 qf3; refine k11.l4 q0 q1 q2 q3 ?_; intro qf0 qf1 qf2 qf3
  revert q0 q1 q2 q3; refine k11.m4 ?_; intro q0 q1 q2 q3
  replace K := hide ((unhide K).trans k11)
  have z12 := k11.size
  clear k11
  go_wp2_with fail
  refine (is_inf_inf false _).mono ?_
  rintro e w13 ⟨rfl, k13⟩
  revert qf0 qf1 qf2 qf3; refine k13.l4 q0 q1 q2 q3 ?_; intro qf0 qf1 qf2 qf3
  revert q0 q1 q2 q3; refine k13.m4 ?_; intro q0 q1 q2 q3
  replace K := hide ((unhide K).trans k13)
  have z14 := k13.size
  clear k13
  go_wp2_with fail
  refine (told_inf_t false _).mono ?_
  rintro e w15 ⟨rfl, k15⟩
  revert qf0 qf1 qf2 qf3; refine k15.l4 q0 q1 q2 q3 ?_; intro qf0 qf1 qf2 qf3
  revert q0 q1 q2 q3; refine k15.m4 ?_; intro q0 q1 q2 q3
  replace K := hide ((unhide K).trans k15)
  have z16 := k15.size
  clear k15
  have KF := hide (((((unhide K).setNew (p := ⟨w.heap.size, 0, none⟩) (by simp) (.int .i64 2)).setNew (p := ⟨w.heap.size, 1, none⟩) (by simp) (.bool false)).setNew (p := ⟨w.heap.size, 2, none⟩) (by simp) (.int .i64 0)).setNew (p := ⟨w.heap.size, 3, none⟩) (by simp) (.int .i64 0))
  clear K
  try go_wp2_with fail
  exact bodyPost_ret (v := .tuple #[.agg #[.int .i64 2, .bool false, .int .i64 0, .int .i64 0], .int .i64 0]) (by simp [results, Tryz.results39, go_sem, q0, q1, q2, q3]) rfl ⟨by rw [unhide FQ], unhide KF⟩

set_option maxHeartbeats 2000000 in
theorem addI_inf_nan (n1 : Bool) (mode : Int) (hm0 : 0 ≤ mode) (hm4 : mode ≤ 4) (w : World) :
    Calls Tryz.prog 39 #[.iface 114 (.agg #[.bool n1]), .iface 115 (.agg #[.bool false]), .int .i64 mode] w fun e' w' => e' = .returned (.tuple #[flq (addQ 2 n1 0 0 3 false 0 0 mode).1, .int .i64 (addQ 2 n1 0 0 3 false 0 0 mode).2]) ∧ Kept 0 0 w w' := by
  obtain ⟨Q, hQ⟩ : ∃ q, addQ 2 n1 0 0 3 false 0 0 mode = q := ⟨_, rfl⟩
  rw [hQ]
  have HQ := hide hQ
  clear hQ
  have FQ : Hid (Q = ((3, false, 0, 0), 0)) := by show _ = _; rw [← unhide HQ]; unfold addQ; simp
  have g1 := fun w => hs_inf n1 w
  have i1 := fun w => inv_inf_t n1 w
  obtain ⟨Wn, hn0⟩ : ∃ wz, wz = (w.alloc (.cells #[.int .i64 0, .bool false, .int .i64 0, .int .i64 0] 24)) := ⟨_, rfl⟩
  have k0 : Kept 0 0 w Wn := by rw [hn0]; exact ((Kept.refl 0 0 w).alloc _)
  obtain ⟨q0, q1, q2, q3, qf0, qf1, qf2, qf3⟩ := new4 hn0 (n := w.heap.size) (by simp)
  have s0 : Wn.heap.size = w.heap.size + 1 := by rw [hn0]; exact by simp
  subst hn0
  have K := hide (k0)
  clear k0
  have S0 := hide s0
  clear s0
  go_enter Tryz.func39, Tryz.ntmps39
  go_wp2_with fail
  generalize (w.alloc (.cells #[.int .i64 0, .bool false, .int .i64 0, .int .i64 0] 24)) = W at *
  refine (is_nan_inf n1 _).mono ?_
  rintro e w1 ⟨rfl, k1⟩
  revert qf0 qf1 qf2 qf3; refine k1.l4 q0 q1 q2 q3 ?_; intro qf0 qf1 qf2 qf3
  revert q0 q1 q2 q3; refine k1.m4 ?_; intro q0 q1 q2 q3
  replace K := hide ((unhide K).trans k1)
  have z2 := k1.size
  clear k1
  go_wp2_with fail
  refine (is_nan_nan _).mono ?_
  rintro e w3 ⟨rfl, k3⟩
  revert qf0 qf1 qf2 qf3; refine k3.l4 q0 q1 q2 q3 ?_; intro qf0 qf1 qf2 qf3
  revert q0 q1 q2 q3; refine k3.m4 ?_; intro q0 q1 q2 q3
  replace K := hide ((unhide K).trans k3)
  have z4 := k3.size
  clear k3
  have KF := hide (((((unhide K).setNew (p := ⟨w.heap.size, 0, none⟩) (by simp) (.int .i64 3)).setNew (p := ⟨w.heap.size, 1, none⟩) (by simp) (.bool false)).setNew (p := ⟨w.heap.size, 2, none⟩) (by simp) (.int .i64 0)).setNew (p := ⟨w.heap.size, 3, none⟩) (by simp) (.int .i64 0))
  clear K
  try go_wp2_with fail
  exact bodyPost_ret (v := .tuple #[.agg #[.int .i64 3, .bool false, .int .i64 0, .int .i64 0], .int .i64 0]) (by simp [results, Tryz.results39, go_sem, q0, q1, q2, q3]) rfl ⟨by rw [unhide FQ], unhide KF⟩

set_option maxHeartbeats 2000000 in
theorem addI_nan_num (n2 : Bool) (m2 e2 : Int) (a12 : -1074 ≤ e2) (a22 : e2 ≤ 971) (a32 : 1 ≤ m2) (a42 : m2 ≤ 9007199254740991) (mode : Int) (hm0 : 0 ≤ mode) (hm4 : mode ≤ 4) (w : World) :
    Calls Tryz.prog 39 #[.iface 115 (.agg #[.bool false]), .iface 113 (.agg #[.bool n2, .int .i64 m2, .int .i64 e2]), .int .i64 mode] w fun e' w' => e' = .returned (.tuple #[flq (addQ 3 false 0 0 1 n2 m2 e2 mode).1, .int .i64 (addQ 3 false 0 0 1 n2 m2 e2 mode).2]) ∧ Kept 0 0 w w' := by
  obtain ⟨Q, hQ⟩ : ∃ q, addQ 3 false 0 0 1 n2 m2 e2 mode = q := ⟨_, rfl⟩
  rw [hQ]
  have HQ := hide hQ
  clear hQ
  have FQ : Hid (Q = ((3, false, 0, 0), 0)) := by show _ = _; rw [← unhide HQ]; unfold addQ; simp
  obtain ⟨Wn, hn0⟩ : ∃ wz, wz = (w.alloc (.cells #[.int .i64 0, .bool false, .int .i64 0, .int .i64 0] 24)) := ⟨_, rfl⟩
  have k0 : Kept 0 0 w Wn := by rw [hn0]; exact ((Kept.refl 0 0 w).alloc _)
  obtain ⟨q0, q1, q2, q3, qf0, qf1, qf2, qf3⟩ := new4 hn0 (n := w.heap.size) (by simp)
  have s0 : Wn.heap.size = w.heap.size + 1 := by rw [hn0]; exact by simp
  subst hn0
  have K := hide (k0)
  clear k0
  have S0 := hide s0
  clear s0
  go_enter Tryz.func39, Tryz.ntmps39
  go_wp2_with fail
  generalize (w.alloc (.cells #[.int .i64 0, .bool false, .int .i64 0, .int .i64 0] 24)) = W at *
  refine (is_nan_nan _).mono ?_
  rintro e w1 ⟨rfl, k1⟩
  revert qf0 qf1 qf2 qf3; refine k1.l4 q0 q1 q2 q3 ?_; intro qf0 qf1 qf2 qf3
  revert q0 q1 q2 q3; refine k1.m4 ?_; intro q0 q1 q2 q3
  replace K := hide ((unhide K).trans k1)
  have z2 := k1.size
  clear k1
  have KF := hide (((((unhide K).setNew (p := ⟨w.heap.size, 0, none⟩) (by simp) (.int .i64 3)).setNew (p := ⟨w.heap.size, 1, none⟩) (by simp) (.bool false)).setNew (p := ⟨w.heap.size, 2, none⟩) (by simp) (.int .i64 0)).setNew (p := ⟨w.heap.size, 3, none⟩) (by simp) (.int .i64 0))
  clear K
  try go_wp2_with fail
  exact bodyPost_ret (v := .tuple #[.agg #[.int .i64 3, .bool false, .int .i64 0, .int .i64 0], .int .i64 0]) (by simp [results, Tryz.results39, go_sem, q0, q1, q2, q3]) rfl ⟨by rw [unhide FQ], unhide KF⟩

set_option maxHeartbeats 2000000 in
theorem addI_nan_nought (n2 : Bool) (mode : Int) (hm0 : 0 ≤ mode) (hm4 : mode ≤ 4) (w : World) :
    Calls Tryz.prog 39 #[.iface 115 (.agg #[.bool false]), .iface 111 (.agg #[.bool n2]), .int .i64 mode] w fun e' w' => e' = .returned (.tuple #[flq (addQ 3 false 0 0 0 n2 0 0 mode).1, .int .i64 (addQ 3 false 0 0 0 n2 0 0 mode).2]) ∧ Kept 0 0 w w' := by
  obtain ⟨Q, hQ⟩ : ∃ q, addQ 3 false 0 0 0 n2 0 0 mode = q := ⟨_, rfl⟩
  rw [hQ]
  have HQ := hide hQ
  clear hQ
  have FQ : Hid (Q = ((3, false, 0, 0), 0)) := by show _ = _; rw [← unhide HQ]; unfold addQ; simp
  obtain ⟨Wn, hn0⟩ : ∃ wz, wz = (w.alloc (.cells #[.int .i64 0, .bool false, .int .i64 0, .int .i64 0] 24)) := ⟨_, rfl⟩
  have k0 : Kept 0 0 w Wn := by rw [hn0]; exact ((Kept.refl 0 0 w).alloc _)
  obtain ⟨q0, q1, q2, q3, qf0, qf1, qf2, qf3⟩ := new4 hn0 (n := w.heap.size) (by simp)
  have s0 : Wn.heap.size = w.heap.size + 1 := by rw [hn0]; exact by simp
  subst hn0
  have K := hide (k0)
  clear k0
  have S0 := hide s0
  clear s0
  go_enter Tryz.func39, Tryz.ntmps39
  go_wp2_with fail
  generalize (w.alloc (.cells #[.int .i64 0, .bool false, .int .i64 0, .int .i64 0] 24)) = W at *
  refine (is_nan_nan _).mono ?_
  rintro e w1 ⟨rfl, k1⟩
  revert qf0 qf1 qf2 qf3; refine k1.l4 q0 q1 q2 q3 ?_; intro qf0 qf1 qf2 qf3
  revert q0 q1 q2 q3; refine k1.m4 ?_; intro q0 q1 q2 q3
  replace K := hide ((unhide K).trans k1)
  have z2 := k1.size
  clear k1
  have KF := hide (((((unhide K).setNew (p := ⟨w.heap.size, 0, none⟩) (by simp) (.int .i64 3)).setNew (p := ⟨w.heap.size, 1, none⟩) (by simp) (.bool false)).setNew (p := ⟨w.heap.size, 2, none⟩) (by simp) (.int .i64 0)).setNew (p := ⟨w.heap.size, 3, none⟩) (by simp) (.int .i64 0))
  clear K
  try go_wp2_with fail
  exact bodyPost_ret (v := .tuple #[.agg #[.int .i64 3, .bool false, .int .i64 0, .int .i64 0], .int .i64 0]) (by simp [results, Tryz.results39, go_sem, q0, q1, q2, q3]) rfl ⟨by rw [unhide FQ], unhide KF⟩

set_option maxHeartbeats 2000000 in
theorem addI_nan_inf (n2 : Bool) (mode : Int) (hm0 : 0 ≤ mode) (hm4 : mode ≤ 4) (w : World) :
    Calls Tryz.prog 39 #[.iface 115 (.agg #[.bool false]), .iface 114 (.agg #[.bool n2]), .int .i64 mode] w fun e' w' => e' = .returned (.tuple #[flq (addQ 3 false 0 0 2 n2 0 0 mode).1, .int .i64 (addQ 3 false 0 0 2 n2 0 0 mode).2]) ∧ Kept 0 0 w w' := by
  obtain ⟨Q, hQ⟩ : ∃ q, addQ 3 false 0 0 2 n2 0 0 mode = q := ⟨_, rfl⟩
  rw [hQ]
  have HQ := hide hQ
  clear hQ
  have FQ : Hid (Q = ((3, false, 0, 0), 0)) := by show _ = _; rw [← unhide HQ]; unfold addQ; simp
  have g2 := fun w => hs_inf n2 w
  have i2 := fun w => inv_inf_t n2 w
  obtain ⟨Wn, hn0⟩ : ∃ wz, wz = (w.alloc (.cells #[.int .i64 0, .bool false, .int .i64 0, .int .i64 0] 24)) := ⟨_, rfl⟩
  have k0 : Kept 0 0 w Wn := by rw [hn0]; exact ((Kept.refl 0 0 w).alloc _)
  obtain ⟨q0, q1, q2, q3, qf0, qf1, qf2, qf3⟩ := new4 hn0 (n := w.heap.size) (by simp)
  have s0 : Wn.heap.size = w.heap.size + 1 := by rw [hn0]; exact by simp
  subst hn0
  have K := hide (k0)
  clear k0
  have S0 := hide s0
  clear s0
  go_enter Tryz.func39, Tryz.ntmps39
  go_wp2_with fail
  generalize (w.alloc (.cells #[.int .i64 0, .bool false, .int .i64 0, .int .i64 0] 24)) = W at *
  refine (is_nan_nan _).mono ?_
  rintro e w1 ⟨rfl, k1⟩
  revert qf0 qf1 qf2 qf3; refine k1.l4 q0 q1 q2 q3 ?_; intro qf0 qf1 qf2 qf3
  revert q0 q1 q2 q3; refine k1.m4 ?_; intro q0 q1 q2 q3
  replace K := hide ((unhide K).trans k1)
  have z2 := k1.size
  clear k1
  have KF := hide (((((unhide K).setNew (p := ⟨w.heap.size, 0, none⟩) (by simp) (.int .i64 3)).setNew (p := ⟨w.heap.size, 1, none⟩) (by simp) (.bool false)).setNew (p := ⟨w.heap.size, 2, none⟩) (by simp) (.int .i64 0)).setNew (p := ⟨w.heap.size, 3, none⟩) (by simp) (.int .i64 0))
  clear K
  try go_wp2_with fail
  exact bodyPost_ret (v := .tuple #[.agg #[.int .i64 3, .bool false, .int .i64 0, .int .i64 0], .int .i64 0]) (by simp [results, Tryz.results39, go_sem, q0, q1, q2, q3]) rfl ⟨by rw [unhide FQ], unhide KF⟩

set_option maxHeartbeats 2000000 in
theorem addI_nan_nan (mode : Int) (hm0 : 0 ≤ mode) (hm4 : mode ≤ 4) (w : World) :
    Calls Tryz.prog 39 #[.iface 115 (.agg #[.bool false]), .iface 115 (.agg #[.bool false]), .int .i64 mode] w fun e' w' => e' = .returned (.tuple #[flq (addQ 3 false 0 0 3 false 0 0 mode).1, .int .i64 (addQ 3 false 0 0 3 false 0 0 mode).2]) ∧ Kept 0 0 w w' := by
  obtain ⟨Q, hQ⟩ : ∃ q, addQ 3 false 0 0 3 false 0 0 mode = q := ⟨_, rfl⟩
  rw [hQ]
  have HQ := hide hQ
  clear hQ
  have FQ : Hid (Q = ((3, false, 0, 0), 0)) := by show _ = _; rw [← unhide HQ]; unfold addQ; simp
  obtain ⟨Wn, hn0⟩ : ∃ wz, wz = (w.alloc (.cells #[.int .i64 0, .bool false, .int .i64 0, .int .i64 0] 24)) := ⟨_, rfl⟩
  have k0 : Kept 0 0 w Wn := by rw [hn0]; exact ((Kept.refl 0 0 w).alloc _)
  obtain ⟨q0, q1, q2, q3, qf0, qf1, qf2, qf3⟩ := new4 hn0 (n := w.heap.size) (by simp)
  have s0 : Wn.heap.size = w.heap.size + 1 := by rw [hn0]; exact by simp
  subst hn0
  have K := hide (k0)
  clear k0
  have S0 := hide s0
  clear s0
  go_enter Tryz.func39, Tryz.ntmps39
  go_wp2_with fail
  generalize (w.alloc (.cells #[.int .i64 0, .bool false, .int .i64 0, .int .i64 0] 24)) = W at *
  refine (is_nan_nan _).mono ?_
  rintro e w1 ⟨rfl, k1⟩
  revert qf0 qf1 qf2 qf3; refine k1.l4 q0 q1 q2 q3 ?_; intro qf0 qf1 qf2 qf3
  revert q0 q1 q2 q3; refine k1.m4 ?_; intro q0 q1 q2 q3
  replace K := hide ((unhide K).trans k1)
  have z2 := k1.size
  clear k1
  have KF := hide (((((unhide K).setNew (p := ⟨w.heap.size, 0, none⟩) (by simp) (.int .i64 3)).setNew (p := ⟨w.heap.size, 1, none⟩) (by simp) (.bool false)).setNew (p := ⟨w.heap.size, 2, none⟩) (by simp) (.int .i64 0)).setNew (p := ⟨w.heap.size, 3, none⟩) (by simp) (.int .i64 0))
  clear K
  try go_wp2_with fail
  exact bodyPost_ret (v := .tuple #[.agg #[.int .i64 3, .bool false, .int .i64 0, .int .i64 0], .int .i64 0]) (by simp [results, Tryz.results39, go_sem, q0, q1, q2, q3]) rfl ⟨by rw [unhide FQ], unhide KF⟩

end Go.Proofs.YtepehpkmejjhiaaGreatDoor

