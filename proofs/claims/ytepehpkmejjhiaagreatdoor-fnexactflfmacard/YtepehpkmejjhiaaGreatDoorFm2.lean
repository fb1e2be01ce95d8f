/-
  A product and a sum of floats, rounded once: the program's multiplyAndAdd where one is no number.
-/
import Derived.Test.YtepehpkmejjhiaaGreatDoorFm1
import Derived.Deep.RegionHeld3
import Derived.Deep.DeepCutAuto
namespace Go.Proofs.YtepehpkmejjhiaaGreatDoor
open Go.RowKit
set_option linter.unusedVariables false
set_option maxRecDepth 8000
set_option linter.unusedSimpArgs false

theorem mulI_sp {k1 : Int} {n1 : Bool} {m1 e1 k2 : Int} {n2 : Bool} {m2 e2 : Int} (h1 : flok k1 n1 m1 e1 = true) (h2 : flok k2 n2 m2 e2 = true) (hs : 2 ≤ k1 ∨ 2 ≤ k2) (mode : Int) (hm0 : 0 ≤ mode) (hm4 : mode ≤ 4) (w : World) :
    Calls Tryz.prog 40 #[ivl k1 n1 m1 e1, ivl k2 n2 m2 e2, .int .i64 mode] w fun e' w' => e' = .returned (.tuple #[flq (mulQ k1 n1 m1 e1 k2 n2 m2 e2 mode).1, .int .i64 (mulQ k1 n1 m1 e1 k2 n2 m2 e2 mode).2]) ∧ Kept 0 0 w w' := by
  rcases flok_ways h1 with ⟨rfl, a11, a21, a31, a41, -⟩ | ⟨rfl, rfl, rfl⟩ | ⟨rfl, rfl, rfl⟩ | ⟨rfl, rfl, rfl, rfl⟩
  ·rcases flok_ways h2 with ⟨rfl, a12, a22, a32, a42, -⟩ | ⟨rfl, rfl, rfl⟩ | ⟨rfl, rfl, rfl⟩ | ⟨rfl, rfl, rfl, rfl⟩
   ·omega
   ·omega
   ·exact mulI_num_inf n1 m1 e1 n2 a11 a21 a31 a41 mode hm0 hm4 w
   ·exact mulI_num_nan n1 m1 e1 a11 a21 a31 a41 mode hm0 hm4 w
  ·rcases flok_ways h2 with ⟨rfl, a12, a22, a32, a42, -⟩ | ⟨rfl, rfl, rfl⟩ | ⟨rfl, rfl, rfl⟩ | ⟨rfl, rfl, rfl, rfl⟩
   ·omega
   ·omega
   ·exact mulI_nought_inf n1 n2 mode hm0 hm4 w
   ·exact mulI_nought_nan n1 mode hm0 hm4 w
  ·rcases flok_ways h2 with ⟨rfl, a12, a22, a32, a42, -⟩ | ⟨rfl, rfl, rfl⟩ | ⟨rfl, rfl, rfl⟩ | ⟨rfl, rfl, rfl, rfl⟩
   ·exact mulI_inf_num n1 n2 m2 e2 a12 a22 a32 a42 mode hm0 hm4 w
   ·exact mulI_inf_nought n1 n2 mode hm0 hm4 w
   ·exact mulI_inf_inf n1 n2 mode hm0 hm4 w
   ·exact mulI_inf_nan n1 mode hm0 hm4 w
  ·rcases flok_ways h2 with ⟨rfl, a12, a22, a32, a42, -⟩ | ⟨rfl, rfl, rfl⟩ | ⟨rfl, rfl, rfl⟩ | ⟨rfl, rfl, rfl, rfl⟩
   ·exact mulI_nan_num n2 m2 e2 a12 a22 a32 a42 mode hm0 hm4 w
   ·exact mulI_nan_nought n2 mode hm0 hm4 w
   ·exact mulI_nan_inf n2 mode hm0 hm4 w
   ·exact mulI_nan_nan mode hm0 hm4 w

theorem addI_nan_any {k3 : Int} {n3 : Bool} {m3 e3 : Int} (h3 : flok k3 n3 m3 e3 = true) (mode : Int) (hm0 : 0 ≤ mode) (hm4 : mode ≤ 4) (w : World) :
    Calls Tryz.prog 39 #[.iface 115 (.agg #[.bool false]), ivl k3 n3 m3 e3, .int .i64 mode] w fun e' w' => e' = .returned (.tuple #[flq (addQ 3 false 0 0 k3 n3 m3 e3 mode).1, .int .i64 (addQ 3 false 0 0 k3 n3 m3 e3 mode).2]) ∧ Kept 0 0 w w' := by
  rcases flok_ways h3 with ⟨rfl, a12, a22, a32, a42, -⟩ | ⟨rfl, rfl, rfl⟩ | ⟨rfl, rfl, rfl⟩ | ⟨rfl, rfl, rfl, rfl⟩
  ·exact addI_nan_num n3 m3 e3 a12 a22 a32 a42 mode hm0 hm4 w
  ·exact addI_nan_nought n3 mode hm0 hm4 w
  ·exact addI_nan_inf n3 mode hm0 hm4 w
  ·exact addI_nan_nan mode hm0 hm4 w

theorem addI_inf_any (s : Bool) {k3 : Int} {n3 : Bool} {m3 e3 : Int} (h3 : flok k3 n3 m3 e3 = true) (mode : Int) (hm0 : 0 ≤ mode) (hm4 : mode ≤ 4) (w : World) :
    Calls Tryz.prog 39 #[.iface 114 (.agg #[.bool s]), ivl k3 n3 m3 e3, .int .i64 mode] w fun e' w' => e' = .returned (.tuple #[flq (addQ 2 s 0 0 k3 n3 m3 e3 mode).1, .int .i64 (addQ 2 s 0 0 k3 n3 m3 e3 mode).2]) ∧ Kept 0 0 w w' := by
  rcases flok_ways h3 with ⟨rfl, a12, a22, a32, a42, -⟩ | ⟨rfl, rfl, rfl⟩ | ⟨rfl, rfl, rfl⟩ | ⟨rfl, rfl, rfl, rfl⟩
  ·exact addI_inf_num s n3 m3 e3 a12 a22 a32 a42 mode hm0 hm4 w
  ·exact addI_inf_nought s n3 mode hm0 hm4 w
  ·cases s <;> cases n3
   ·exact addI_inf_inf_false_false mode hm0 hm4 w
   ·exact addI_inf_inf_false_true mode hm0 hm4 w
   ·exact addI_inf_inf_true_false mode hm0 hm4 w
   ·exact addI_inf_inf_true_true mode hm0 hm4 w
  ·exact addI_inf_nan s mode hm0 hm4 w

theorem mul_sp {k1 : Int} {n1 : Bool} {m1 e1 k2 : Int} {n2 : Bool} {m2 e2 : Int} (h1 : flok k1 n1 m1 e1 = true) (h2 : flok k2 n2 m2 e2 = true) (hs : 2 ≤ k1 ∨ 2 ≤ k2) (k3 : Int) (n3 : Bool) (m3 e3 mode : Int) :
    (mulQ k1 n1 m1 e1 k2 n2 m2 e2 mode = ((3, false, 0, 0), 0) ∧ fmaQ k1 n1 m1 e1 k2 n2 m2 e2 k3 n3 m3 e3 mode = addQ 3 false 0 0 k3 n3 m3 e3 mode) ∨ (mulQ k1 n1 m1 e1 k2 n2 m2 e2 mode = ((3, false, 0, 0), 16) ∧ fmaQ k1 n1 m1 e1 k2 n2 m2 e2 k3 n3 m3 e3 mode = ((3, false, 0, 0), 16)) ∨ (mulQ k1 n1 m1 e1 k2 n2 m2 e2 mode = ((2, !(n1 == n2), 0, 0), 0) ∧ fmaQ k1 n1 m1 e1 k2 n2 m2 e2 k3 n3 m3 e3 mode = addQ 2 (!(n1 == n2)) 0 0 k3 n3 m3 e3 mode) := by
  have hf : ∀ x : (Int × Bool × Int × Int) × Int, mulQ k1 n1 m1 e1 k2 n2 m2 e2 mode = x → fmaQ k1 n1 m1 e1 k2 n2 m2 e2 k3 n3 m3 e3 mode = if x.2 = 0 then addQ x.1.1 x.1.2.1 0 0 k3 n3 m3 e3 mode else x := by
   intro x hx
   unfold fmaQ
   rw [if_pos hs, hx]
  by_cases c1 : k1 = 3 ∨ k2 = 3
  ·have e : mulQ k1 n1 m1 e1 k2 n2 m2 e2 mode = ((3, false, 0, 0), 0) := by unfold mulQ; rw [if_pos c1]
   exact .inl ⟨e, hf _ e⟩
  ·by_cases c2 : (k1 = 2 ∧ k2 = 0) ∨ (k1 = 0 ∧ k2 = 2)
   ·have e : mulQ k1 n1 m1 e1 k2 n2 m2 e2 mode = ((3, false, 0, 0), 16) := by unfold mulQ; rw [if_neg c1, if_pos c2]
    exact .inr (.inl ⟨e, hf _ e⟩)
   ·have c3 : k1 = 2 ∨ k2 = 2 := by
     rcases flok_ways h1 with ⟨g1, -⟩ | ⟨g1, -⟩ | ⟨g1, -⟩ | ⟨g1, -⟩ <;> rcases flok_ways h2 with ⟨g2, -⟩ | ⟨g2, -⟩ | ⟨g2, -⟩ | ⟨g2, -⟩ <;> omega
    have e : mulQ k1 n1 m1 e1 k2 n2 m2 e2 mode = ((2, !(n1 == n2), 0, 0), 0) := by unfold mulQ; rw [if_neg c1, if_neg c2, if_pos c3]
    exact .inr (.inr ⟨e, hf _ e⟩)

set_option maxHeartbeats 4000000 in
theorem maI_sp {k1 : Int} {n1 : Bool} {m1 e1 k2 : Int} {n2 : Bool} {m2 e2 k3 : Int} {n3 : Bool} {m3 e3 : Int} (h1 : flok k1 n1 m1 e1 = true) (h2 : flok k2 n2 m2 e2 = true) (h3 : flok k3 n3 m3 e3 = true) (hs : 2 ≤ k1 ∨ 2 ≤ k2) (mode : Int) (hm0 : 0 ≤ mode) (hm4 : mode ≤ 4) (w : World) (T : TabB w) :
    Calls Tryz.prog 37 #[ivl k1 n1 m1 e1, ivl k2 n2 m2 e2, ivl k3 n3 m3 e3, .int .i64 mode] w fun e' w' => e' = .returned (.tuple #[flq (fmaQ k1 n1 m1 e1 k2 n2 m2 e2 k3 n3 m3 e3 mode).1, .int .i64 (fmaQ k1 n1 m1 e1 k2 n2 m2 e2 k3 n3 m3 e3 mode).2]) ∧ Kept 0 0 w w' := by
  have hsp := mul_sp h1 h2 hs k3 n3 m3 e3 mode
  obtain ⟨Q, hQ⟩ : ∃ q, fmaQ k1 n1 m1 e1 k2 n2 m2 e2 k3 n3 m3 e3 mode = q := ⟨_, rfl⟩
  rw [hQ]
  rw [hQ] at hsp
  have hb : k1 = 2 ∨ k1 = 3 ∨ (k1 ≤ 1 ∧ k2 = 2) ∨ (k1 ≤ 1 ∧ k2 = 3) := by
   have r1 : k1 ≤ 1 ∨ k1 = 2 ∨ k1 = 3 := by rcases flok_ways h1 with ⟨g, -⟩ | ⟨g, -⟩ | ⟨g, -⟩ | ⟨g, -⟩ <;> omega
   have r2 : k2 ≤ 1 ∨ k2 = 2 ∨ k2 = 3 := by rcases flok_ways h2 with ⟨g, -⟩ | ⟨g, -⟩ | ⟨g, -⟩ | ⟨g, -⟩ <;> omega
   omega
  have mI := fun (w : World) => mulI_sp h1 h2 hs mode hm0 hm4 w
  have mN := fun w => addI_nan_any h3 mode hm0 hm4 w
  have mF := fun s w => addI_inf_any s h3 mode hm0 hm4 w
  obtain ⟨SG, hSG⟩ : ∃ y, (!(n1 == n2)) = y := ⟨_, rfl⟩
  rw [hSG] at hsp
  clear hSG hQ
  rcases hb with j1 | j1 | ⟨j1, j2⟩ | ⟨j1, j2⟩
  have i1 := fun w => isInf_yes h1 (by omega) w
  obtain ⟨I1, hI1⟩ : ∃ y, ivl k1 n1 m1 e1 = y := ⟨_, rfl⟩
  obtain ⟨I2, hI2⟩ : ∃ y, ivl k2 n2 m2 e2 = y := ⟨_, rfl⟩
  obtain ⟨I3, hI3⟩ : ∃ y, ivl k3 n3 m3 e3 = y := ⟨_, rfl⟩
  rw [hI1, hI2, hI3]
  simp only [hI1] at i1 mI
  simp only [hI2] at mI
  simp only [hI3] at mN mF
  clear hI1 hI2 hI3 j1
  replace i1 := hide i1
  obtain ⟨Wn, hn0⟩ : ∃ wz, wz = (w.alloc (.cells #[.int .i64 0, .bool false, .int .i64 0, .int .i64 0] 24)) := ⟨_, rfl⟩
  have k0 : Kept 0 0 w Wn := by rw [hn0]; exact ((Kept.refl 0 0 w).alloc _)
  obtain ⟨q0, q1, q2, q3, qf0, qf1, qf2, qf3⟩ := new4 hn0 (n := w.heap.size) (by simp)
  have s0 : Wn.heap.size = w.heap.size + 1 := by rw [hn0]; exact by simp
  subst hn0
  have K := hide (k0)
  clear k0
  have S0 := hide s0
  clear s0
  go_enter Tryz.func37, Tryz.ntmps37
  go_wp2_with fail
  generalize (w.alloc (.cells #[.int .i64 0, .bool false, .int .i64 0, .int .i64 0] 24)) = W at *
  refine (unhide i1 _).mono ?_
  rintro e w1 ⟨rfl, k1⟩
  revert qf0 qf1 qf2 qf3; refine k1.l4 q0 q1 q2 q3 ?_; intro qf0 qf1 qf2 qf3
  revert q0 q1 q2 q3; refine k1.m4 ?_; intro q0 q1 q2 q3
  replace K := hide ((unhide K).trans k1)
  have z2 := k1.size
  clear k1
  go_wp2_with fail
  clear i1
  have zW : W.heap.size ≤ w1.heap.size := by omega
  generalize w1 = WZ at *
  rotate_left
  have i1 := fun w => isInf_no h1 (by omega) w
  have i2 := fun w => isNan_yes h1 (by omega) w
  obtain ⟨I1, hI1⟩ : ∃ y, ivl k1 n1 m1 e1 = y := ⟨_, rfl⟩
  obtain ⟨I2, hI2⟩ : ∃ y, ivl k2 n2 m2 e2 = y := ⟨_, rfl⟩
  obtain ⟨I3, hI3⟩ : ∃ y, ivl k3 n3 m3 e3 = y := ⟨_, rfl⟩
  rw [hI1, hI2, hI3]
  simp only [hI1] at i1 i2 mI
  simp only [hI2] at mI
  simp only [hI3] at mN mF
  clear hI1 hI2 hI3 j1
  replace i1 := hide i1
  replace i2 := hide i2
  obtain ⟨Wn, hn0⟩ : ∃ wz, wz = (w.alloc (.cells #[.int .i64 0, .bool false, .int .i64 0, .int .i64 0] 24)) := ⟨_, rfl⟩
  have k0 : Kept 0 0 w Wn := by rw [hn0]; exact ((Kept.refl 0 0 w).alloc _)
  obtain ⟨q0, q1, q2, q3, qf0, qf1, qf2, qf3⟩ := new4 hn0 (n := w.heap.size) (by simp)
  have s0 : Wn.heap.size = w.heap.size + 1 := by rw [hn0]; exact by simp
  subst hn0
  have K := hide (k0)
  clear k0
  have S0 := hide s0
  clear s0
  go_enter Tryz.func37, Tryz.ntmps37
  go_wp2_with fail
  generalize (w.alloc (.cells #[.int .i64 0, .bool false, .int .i64 0, .int .i64 0] 24)) = W at *
  refine (unhide i1 _).mono ?_
  rintro e w1 ⟨rfl, k1⟩
  revert qf0 qf1 qf2 qf3; refine k1.l4 q0 q1 q2 q3 ?_; intro qf0 qf1 qf2 qf3
  revert q0 q1 q2 q3; refine k1.m4 ?_; intro q0 q1 q2 q3
  replace K := hide ((unhide K).trans k1)
  have z2 := k1.size
  clear k1
  go_wp2_with fail
  refine (unhide i2 _).mono ?_
  rintro e w3 ⟨rfl, k3⟩
  revert qf0 qf1 qf2 qf3; refine k3.l4 q0 q1 q2 q3 ?_; intro qf0 qf1 qf2 qf3
  revert q0 q1 q2 q3; refine k3.m4 ?_; intro q0 q1 q2 q3
  replace K := hide ((unhide K).trans k3)
  have z4 := k3.size
  clear k3
  go_wp2_with fail
  clear i1 i2
  have zW : W.heap.size ≤ w3.heap.size := by omega
  generalize w3 = WZ at *
  rotate_left
  have i1 := fun w => isInf_no h1 (by omega) w
  have i2 := fun w => isNan_no h1 (by omega) w
  have i3 := fun w => isInf_yes h2 (by omega) w
  obtain ⟨I1, hI1⟩ : ∃ y, ivl k1 n1 m1 e1 = y := ⟨_, rfl⟩
  obtain ⟨I2, hI2⟩ : ∃ y, ivl k2 n2 m2 e2 = y := ⟨_, rfl⟩
  obtain ⟨I3, hI3⟩ : ∃ y, ivl k3 n3 m3 e3 = y := ⟨_, rfl⟩
  rw [hI1, hI2, hI3]
  simp only [hI1] at i1 i2 mI
  simp only [hI2] at i3 mI
  simp only [hI3] at mN mF
  clear hI1 hI2 hI3 j1 j2
  replace i1 := hide i1
  replace i2 := hide i2
  replace i3 := hide i3
  obtain ⟨Wn, hn0⟩ : ∃ wz, wz = (w.alloc (.cells #[.int .i64 0, .bool false, .int .i64 0, .int .i64 0] 24)) := ⟨_, rfl⟩
  have k0 : Kept 0 0 w Wn := by rw [hn0]; exact ((Kept.refl 0 0 w).alloc _)
  obtain ⟨q0, q1, q2, q3, qf0, qf1, qf2, qf3⟩ := new4 hn0 (n := w.heap.size) (by simp)
  have s0 : Wn.heap.size = w.heap.size + 1 := by rw [hn0]; exact by simp
  subst hn0
  have K := hide (k0)
  clear k0
  have S0 := hide s0
  clear s0
  go_enter Tryz.func37, Tryz.ntmps37
  go_wp2_with fail
  generalize (w.alloc (.cells #[.int .i64 0, .bool false, .int .i64 0, .int .i64 0] 24)) = W at *
  refine (unhide i1 _).mono ?_
  rintro e w1 ⟨rfl, k1⟩
  revert qf0 qf1 qf2 qf3; refine k1.l4 q0 q1 q2 q3 ?_; intro qf0 qf1 qf2 qf3
  revert q0 q1 q2 q3; refine k1.m4 ?_; intro q0 q1 q2 q3
  replace K := hide ((unhide K).trans k1)
  have z2 := k1.size
  clear k1
  go_wp2_with fail
  refine (unhide i2 _).mono ?_
  rintro e w3 ⟨rfl, k3⟩
  revert qf0 qf1 qf2 qf3; refine k3.l4 q0 q1 q2 q3 ?_; intro qf0 qf1 qf2 qf3
  revert q0 q1 q2 q3; refine k3.m4 ?_; intro q0 q1 q2 q3
  replace K := hide ((unhide K).trans k3)
  have z4 := k3.size
  clear k3
  go_wp2_with fail
  refine (unhide i3 _).mono ?_
  rintro e w5 ⟨rfl, k5⟩
  revert qf0 qf1 qf2 qf3; refine k5.l4 q0 q1 q2 q3 ?_; intro qf0 qf1 qf2 qf3
  revert q0 q1 q2 q3; refine k5.m4 ?_; intro q0 q1 q2 q3
  replace K := hide ((unhide K).trans k5)
  have z6 := k5.size
  clear k5
  go_wp2_with fail
  clear i1 i2 i3
  have zW : W.heap.size ≤ w5.heap.size := by omega
  generalize w5 = WZ at *
  rotate_left
  have i1 := fun w => isInf_no h1 (by omega) w
  have i2 := fun w => isNan_no h1 (by omega) w
  have i3 := fun w => isInf_no h2 (by omega) w
  have i4 := fun w => isNan_yes h2 (by omega) w
  obtain ⟨I1, hI1⟩ : ∃ y, ivl k1 n1 m1 e1 = y := ⟨_, rfl⟩
  obtain ⟨I2, hI2⟩ : ∃ y, ivl k2 n2 m2 e2 = y := ⟨_, rfl⟩
  obtain ⟨I3, hI3⟩ : ∃ y, ivl k3 n3 m3 e3 = y := ⟨_, rfl⟩
  rw [hI1, hI2, hI3]
  simp only [hI1] at i1 i2 mI
  simp only [hI2] at i3 i4 mI
  simp only [hI3] at mN mF
  clear hI1 hI2 hI3 j1 j2
  replace i1 := hide i1
  replace i2 := hide i2
  replace i3 := hide i3
  replace i4 := hide i4
  obtain ⟨Wn, hn0⟩ : ∃ wz, wz = (w.alloc (.cells #[.int .i64 0, .bool false, .int .i64 0, .int .i64 0] 24)) := ⟨_, rfl⟩
  have k0 : Kept 0 0 w Wn := by rw [hn0]; exact ((Kept.refl 0 0 w).alloc _)
  obtain ⟨q0, q1, q2, q3, qf0, qf1, qf2, qf3⟩ := new4 hn0 (n := w.heap.size) (by simp)
  have s0 : Wn.heap.size = w.heap.size + 1 := by rw [hn0]; exact by simp
  subst hn0
  have K := hide (k0)
  clear k0
  have S0 := hide s0
  clear s0
  go_enter Tryz.func37, Tryz.ntmps37
  go_wp2_with fail
  generalize (w.alloc (.cells #[.int .i64 0, .bool false, .int .i64 0, .int .i64 0] 24)) = W at *
  refine (unhide i1 _).mono ?_
  rintro e w1 ⟨rfl, k1⟩
  revert qf0 qf1 qf2 qf3; refine k1.l4 q0 q1 q2 q3 ?_; intro qf0 qf1 qf2 qf3
  revert q0 q1 q2 q3; refine k1.m4 ?_; intro q0 q1 q2 q3
  replace K := hide ((unhide K).trans k1)
  have z2 := k1.size
  clear k1
  go_wp2_with fail
  refine (unhide i2 _).mono ?_
  rintro e w3 ⟨rfl, k3⟩
  revert qf0 qf1 qf2 qf3; refine k3.l4 q0 q1 q2 q3 ?_; intro qf0 qf1 qf2 qf3
  revert q0 q1 q2 q3; refine k3.m4 ?_; intro q0 q1 q2 q3
  replace K := hide ((unhide K).trans k3)
  have z4 := k3.size
  clear k3
  go_wp2_with fail
  refine (unhide i3 _).mono ?_
  rintro e w5 ⟨rfl, k5⟩
  revert qf0 qf1 qf2 qf3; refine k5.l4 q0 q1 q2 q3 ?_; intro qf0 qf1 qf2 qf3
  revert q0 q1 q2 q3; refine k5.m4 ?_; intro q0 q1 q2 q3
  replace K := hide ((unhide K).trans k5)
  have z6 := k5.size
  clear k5
  go_wp2_with fail
  refine (unhide i4 _).mono ?_
  rintro e w7 ⟨rfl, k7⟩
  revert qf0 qf1 qf2 qf3; refine k7.l4 q0 q1 q2 q3 ?_; intro qf0 qf1 qf2 qf3
  revert q0 q1 q2 q3; refine k7.m4 ?_; intro q0 q1 q2 q3
  replace K := hide ((unhide K).trans k7)
  have z8 := k7.size
  clear k7
  go_wp2_with fail
  clear i1 i2 i3 i4
  have zW : W.heap.size ≤ w7.heap.size := by omega
  generalize w7 = WZ at *
  rotate_left
  all_goals
   rcases hsp with ⟨hm, hQ⟩ | ⟨hm, hQ⟩ | ⟨hm, hQ⟩
   ·have mm : ∀ (w : World) (T : TabB w), Calls Tryz.prog 40 #[I1, I2, .int .i64 mode] w fun e' w' => e' = .returned (.tuple #[.agg #[.int .i64 3, .bool false, .int .i64 0, .int .i64 0], .int .i64 0]) ∧ Kept 0 0 w w' := fun w T => by
     have := mI w
     rw [hm] at this
     exact this
    have ma := mN
    simp only [← hQ] at ma
    have HQ := hide hQ
    clear mI mN mF hQ hm
    replace mm := hide mm
    replace ma := hide ma
    refine (unhide mm _ (T.kept (unhide K))).mono ?_
    rintro e w41 ⟨rfl, k41⟩
    revert qf0 qf1 qf2 qf3; refine k41.l4 q0 q1 q2 q3 ?_; intro qf0 qf1 qf2 qf3
    revert q0 q1 q2 q3; refine k41.m4 ?_; intro q0 q1 q2 q3
    replace K := hide ((unhide K).trans k41)
    have z42 := k41.size
    clear k41 mm
    have kn := (Kept.refl 0 0 w41).alloc (.cells #[.int .i64 3, .bool false, .int .i64 0, .int .i64 0] 24)
    revert qf0 qf1 qf2 qf3; refine kn.l4 q0 q1 q2 q3 ?_; intro qf0 qf1 qf2 qf3
    revert q0 q1 q2 q3; refine kn.m4 ?_; intro q0 q1 q2 q3
    replace K := hide ((unhide K).trans kn)
    have z43 := kn.size
    clear kn
    have R0 : (w41.alloc (.cells #[.int .i64 3, .bool false, .int .i64 0, .int .i64 0] 24)).cell? ⟨w41.heap.size, 0, none⟩ = some (.int .i64 3) := new_cell2 _ _ _ _ _ _ rfl rfl
    have R1 : (w41.alloc (.cells #[.int .i64 3, .bool false, .int .i64 0, .int .i64 0] 24)).cell? ⟨w41.heap.size, 1, none⟩ = some (.bool false) := new_cell2 _ _ _ _ _ _ rfl rfl
    have R2 : (w41.alloc (.cells #[.int .i64 3, .bool false, .int .i64 0, .int .i64 0] 24)).cell? ⟨w41.heap.size, 2, none⟩ = some (.int .i64 0) := new_cell2 _ _ _ _ _ _ rfl rfl
    have R3 : (w41.alloc (.cells #[.int .i64 3, .bool false, .int .i64 0, .int .i64 0] 24)).cell? ⟨w41.heap.size, 3, none⟩ = some (.int .i64 0) := new_cell2 _ _ _ _ _ _ rfl rfl
    go_wp2_with fail
    generalize w41.alloc (.cells #[.int .i64 3, .bool false, .int .i64 0, .int .i64 0] 24) = WA at *
    refine (fo_nan _).mono ?_
    rintro e w44 ⟨rfl, k44⟩
    revert qf0 qf1 qf2 qf3; refine k44.l4 q0 q1 q2 q3 ?_; intro qf0 qf1 qf2 qf3
    revert q0 q1 q2 q3 R0 R1 R2 R3; refine k44.m8 ?_; intro q0 q1 q2 q3 R0 R1 R2 R3
    replace K := hide ((unhide K).trans k44)
    have z45 := k44.size
    clear k44
    go_wp2_with fail
    refine (unhide ma _).mono ?_
    rintro e w46 ⟨rfl, k46⟩
    revert qf0 qf1 qf2 qf3; refine k46.l4 q0 q1 q2 q3 ?_; intro qf0 qf1 qf2 qf3
    revert q0 q1 q2 q3 R0 R1 R2 R3; refine k46.m8 ?_; intro q0 q1 q2 q3 R0 R1 R2 R3
    replace K := hide ((unhide K).trans k46)
    have z47 := k46.size
    clear k46
    have KF := hide (((((unhide K).setNew (p := ⟨w.heap.size, 0, none⟩) (by simp) (.int .i64 Q.1.1)).setNew (p := ⟨w.heap.size, 1, none⟩) (by simp) (.bool Q.1.2.1)).setNew (p := ⟨w.heap.size, 2, none⟩) (by simp) (.int .i64 Q.1.2.2.1)).setNew (p := ⟨w.heap.size, 3, none⟩) (by simp) (.int .i64 Q.1.2.2.2))
    clear K
    try go_wp2_with fail
    exact bodyPost_ret (v := .tuple #[.agg #[.int .i64 Q.1.1, .bool Q.1.2.1, .int .i64 Q.1.2.2.1, .int .i64 Q.1.2.2.2], .int .i64 Q.2]) (by simp [results, Tryz.results37, go_sem, q0, q1, q2, q3]) rfl ⟨rfl, unhide KF⟩
   ·have mm : ∀ (w : World) (T : TabB w), Calls Tryz.prog 40 #[I1, I2, .int .i64 mode] w fun e' w' => e' = .returned (.tuple #[.agg #[.int .i64 3, .bool false, .int .i64 0, .int .i64 0], .int .i64 16]) ∧ Kept 0 0 w w' := fun w T => by
     have := mI w
     rw [hm] at this
     exact this
    have HQ := hide hQ
    clear mI mN mF hQ hm
    replace mm := hide mm
    refine (unhide mm _ (T.kept (unhide K))).mono ?_
    rintro e w41 ⟨rfl, k41⟩
    replace qf0 := k41.loose0 (zbl q0) qf0
    replace qf1 := k41.loose0 (zbl q1) qf1
    replace qf2 := k41.loose0 (zbl q2) qf2
    replace qf3 := k41.loose0 (zbl q3) qf3
    replace q0 := k41.cell0 q0
    replace q1 := k41.cell0 q1
    replace q2 := k41.cell0 q2
    replace q3 := k41.cell0 q3
    replace K := hide ((unhide K).trans k41)
    have z42 := k41.size
    clear k41 mm
    have kn := (Kept.refl 0 0 w41).alloc (.cells #[.int .i64 3, .bool false, .int .i64 0, .int .i64 0] 24)
    revert qf0 qf1 qf2 qf3; refine kn.l4 q0 q1 q2 q3 ?_; intro qf0 qf1 qf2 qf3
    revert q0 q1 q2 q3; refine kn.m4 ?_; intro q0 q1 q2 q3
    replace K := hide ((unhide K).trans kn)
    have z43 := kn.size
    clear kn
    have R0 : (w41.alloc (.cells #[.int .i64 3, .bool false, .int .i64 0, .int .i64 0] 24)).cell? ⟨w41.heap.size, 0, none⟩ = some (.int .i64 3) := new_cell2 _ _ _ _ _ _ rfl rfl
    have R1 : (w41.alloc (.cells #[.int .i64 3, .bool false, .int .i64 0, .int .i64 0] 24)).cell? ⟨w41.heap.size, 1, none⟩ = some (.bool false) := new_cell2 _ _ _ _ _ _ rfl rfl
    have R2 : (w41.alloc (.cells #[.int .i64 3, .bool false, .int .i64 0, .int .i64 0] 24)).cell? ⟨w41.heap.size, 2, none⟩ = some (.int .i64 0) := new_cell2 _ _ _ _ _ _ rfl rfl
    have R3 : (w41.alloc (.cells #[.int .i64 3, .bool false, .int .i64 0, .int .i64 0] 24)).cell? ⟨w41.heap.size, 3, none⟩ = some (.int .i64 0) := new_cell2 _ _ _ _ _ _ rfl rfl
    have FQ : Hid (Q = ((3, false, 0, 0), 16)) := HQ
    have KF := hide (((((unhide K).setNew (p := ⟨w.heap.size, 0, none⟩) (by simp) (.int .i64 3)).setNew (p := ⟨w.heap.size, 1, none⟩) (by simp) (.bool false)).setNew (p := ⟨w.heap.size, 2, none⟩) (by simp) (.int .i64 0)).setNew (p := ⟨w.heap.size, 3, none⟩) (by simp) (.int .i64 0))
    clear K
    try go_wp2_with fail
    exact bodyPost_ret (v := .tuple #[.agg #[.int .i64 3, .bool false, .int .i64 0, .int .i64 0], .int .i64 16]) (by simp [results, Tryz.results37, go_sem, q0, q1, q2, q3]) rfl ⟨by rw [unhide FQ], unhide KF⟩
   ·have mm : ∀ (w : World) (T : TabB w), Calls Tryz.prog 40 #[I1, I2, .int .i64 mode] w fun e' w' => e' = .returned (.tuple #[.agg #[.int .i64 2, .bool SG, .int .i64 0, .int .i64 0], .int .i64 0]) ∧ Kept 0 0 w w' := fun w T => by
     have := mI w
     rw [hm] at this
     exact this
    have ma := fun w => mF SG w
    simp only [← hQ] at ma
    have HQ := hide hQ
    clear mI mN mF hQ hm
    replace mm := hide mm
    replace ma := hide ma
    refine (unhide mm _ (T.kept (unhide K))).mono ?_
    rintro e w41 ⟨rfl, k41⟩
    replace qf0 := k41.loose0 (zbl q0) qf0
    replace qf1 := k41.loose0 (zbl q1) qf1
    replace qf2 := k41.loose0 (zbl q2) qf2
    replace qf3 := k41.loose0 (zbl q3) qf3
    replace q0 := k41.cell0 q0
    replace q1 := k41.cell0 q1
    replace q2 := k41.cell0 q2
    replace q3 := k41.cell0 q3
    replace K := hide ((unhide K).trans k41)
    have z42 := k41.size
    clear k41 mm
    have kn := (Kept.refl 0 0 w41).alloc (.cells #[.int .i64 2, .bool SG, .int .i64 0, .int .i64 0] 24)
    revert qf0 qf1 qf2 qf3; refine kn.l4 q0 q1 q2 q3 ?_; intro qf0 qf1 qf2 qf3
    revert q0 q1 q2 q3; refine kn.m4 ?_; intro q0 q1 q2 q3
    replace K := hide ((unhide K).trans kn)
    have z43 := kn.size
    clear kn
    have R0 : (w41.alloc (.cells #[.int .i64 2, .bool SG, .int .i64 0, .int .i64 0] 24)).cell? ⟨w41.heap.size, 0, none⟩ = some (.int .i64 2) := new_cell2 _ _ _ _ _ _ rfl rfl
    have R1 : (w41.alloc (.cells #[.int .i64 2, .bool SG, .int .i64 0, .int .i64 0] 24)).cell? ⟨w41.heap.size, 1, none⟩ = some (.bool SG) := new_cell2 _ _ _ _ _ _ rfl rfl
    have R2 : (w41.alloc (.cells #[.int .i64 2, .bool SG, .int .i64 0, .int .i64 0] 24)).cell? ⟨w41.heap.size, 2, none⟩ = some (.int .i64 0) := new_cell2 _ _ _ _ _ _ rfl rfl
    have R3 : (w41.alloc (.cells #[.int .i64 2, .bool SG, .int .i64 0, .int .i64 0] 24)).cell? ⟨w41.heap.size, 3, none⟩ = some (.int .i64 0) := new_cell2 _ _ _ _ _ _ rfl rfl
    go_wp2_with fail
    generalize w41.alloc (.cells #[.int .i64 2, .bool SG, .int .i64 0, .int .i64 0] 24) = WA at *
    refine (fo_inf SG _).mono ?_
    rintro e w44 ⟨rfl, k44⟩
    revert qf0 qf1 qf2 qf3; refine k44.l4 q0 q1 q2 q3 ?_; intro qf0 qf1 qf2 qf3
    revert q0 q1 q2 q3 R0 R1 R2 R3; refine k44.m8 ?_; intro q0 q1 q2 q3 R0 R1 R2 R3
    replace K := hide ((unhide K).trans k44)
    have z45 := k44.size
    clear k44
    go_wp2_with fail
    refine (unhide ma _).mono ?_
    rintro e w46 ⟨rfl, k46⟩
    revert qf0 qf1 qf2 qf3; refine k46.l4 q0 q1 q2 q3 ?_; intro qf0 qf1 qf2 qf3
    revert q0 q1 q2 q3 R0 R1 R2 R3; refine k46.m8 ?_; intro q0 q1 q2 q3 R0 R1 R2 R3
    replace K := hide ((unhide K).trans k46)
    have z47 := k46.size
    clear k46
    have KF := hide (((((unhide K).setNew (p := ⟨w.heap.size, 0, none⟩) (by simp) (.int .i64 Q.1.1)).setNew (p := ⟨w.heap.size, 1, none⟩) (by simp) (.bool Q.1.2.1)).setNew (p := ⟨w.heap.size, 2, none⟩) (by simp) (.int .i64 Q.1.2.2.1)).setNew (p := ⟨w.heap.size, 3, none⟩) (by simp) (.int .i64 Q.1.2.2.2))
    clear K
    try go_wp2_with fail
    exact bodyPost_ret (v := .tuple #[.agg #[.int .i64 Q.1.1, .bool Q.1.2.1, .int .i64 Q.1.2.2.1, .int .i64 Q.1.2.2.2], .int .i64 Q.2]) (by simp [results, Tryz.results37, go_sem, q0, q1, q2, q3]) rfl ⟨rfl, unhide KF⟩

set_option maxHeartbeats 2000000 in
theorem maI_c_inf {k1 : Int} {n1 : Bool} {m1 e1 k2 : Int} {n2 : Bool} {m2 e2 : Int} (h1 : flok k1 n1 m1 e1 = true) (h2 : flok k2 n2 m2 e2 = true) (j1 : k1 ≤ 1) (j2 : k2 ≤ 1) (n3 : Bool) (mode : Int) (w : World) :
    Calls Tryz.prog 37 #[ivl k1 n1 m1 e1, ivl k2 n2 m2 e2, .iface 114 (.agg #[.bool n3]), .int .i64 mode] w fun e' w' => e' = .returned (.tuple #[flq (fmaQ k1 n1 m1 e1 k2 n2 m2 e2 2 n3 0 0 mode).1, .int .i64 (fmaQ k1 n1 m1 e1 k2 n2 m2 e2 2 n3 0 0 mode).2]) ∧ Kept 0 0 w w' := by
  have hQ : fmaQ k1 n1 m1 e1 k2 n2 m2 e2 2 n3 0 0 mode = ((2, n3, 0, 0), 0) := by
   unfold fmaQ
   rw [if_neg (show ¬ (2 ≤ k1 ∨ 2 ≤ k2) by omega), if_pos (by decide)]
  rw [hQ]
  clear hQ
  have i1 := fun w => isInf_no h1 (by omega) w
  have i2 := fun w => isNan_no h1 (by omega) w
  have i3 := fun w => isInf_no h2 (by omega) w
  have i4 := fun w => isNan_no h2 (by omega) w
  have gg := fun w => inv_inf_t n3 w
  obtain ⟨I1, hI1⟩ : ∃ y, ivl k1 n1 m1 e1 = y := ⟨_, rfl⟩
  obtain ⟨I2, hI2⟩ : ∃ y, ivl k2 n2 m2 e2 = y := ⟨_, rfl⟩
  rw [hI1, hI2]
  simp only [hI1] at i1 i2
  simp only [hI2] at i3 i4
  clear hI1 hI2
  replace i1 := hide i1
  replace i2 := hide i2
  replace i3 := hide i3
  replace i4 := hide i4
  obtain ⟨Wn, hn0⟩ : ∃ wz, wz = (w.alloc (.cells #[.int .i64 0, .bool false, .int .i64 0, .int .i64 0] 24)) := ⟨_, rfl⟩
  have k0 : Kept 0 0 w Wn := by rw [hn0]; exact ((Kept.refl 0 0 w).alloc _)
  obtain ⟨q0, q1, q2, q3, qf0, qf1, qf2, qf3⟩ := new4 hn0 (n := w.heap.size) (by simp)
  have s0 : Wn.heap.size = w.heap.size + 1 := by rw [hn0]; exact by simp
  subst hn0
  have K := hide (k0)
  clear k0
  have S0 := hide s0
  clear s0
  go_enter Tryz.func37, Tryz.ntmps37
  go_wp2_with fail
  generalize (w.alloc (.cells #[.int .i64 0, .bool false, .int .i64 0, .int .i64 0] 24)) = W at *
  refine (unhide i1 _).mono ?_
  rintro e w1 ⟨rfl, k1⟩
  revert qf0 qf1 qf2 qf3; refine k1.l4 q0 q1 q2 q3 ?_; intro qf0 qf1 qf2 qf3
  revert q0 q1 q2 q3; refine k1.m4 ?_; intro q0 q1 q2 q3
  replace K := hide ((unhide K).trans k1)
  have z2 := k1.size
  clear k1
  go_wp2_with fail
  refine (unhide i2 _).mono ?_
  rintro e w3 ⟨rfl, k3⟩
  revert qf0 qf1 qf2 qf3; refine k3.l4 q0 q1 q2 q3 ?_; intro qf0 qf1 qf2 qf3
  revert q0 q1 q2 q3; refine k3.m4 ?_; intro q0 q1 q2 q3
  replace K := hide ((unhide K).trans k3)
  have z4 := k3.size
  clear k3
  go_wp2_with fail
  refine (unhide i3 _).mono ?_
  rintro e w5 ⟨rfl, k5⟩
  revert qf0 qf1 qf2 qf3; refine k5.l4 q0 q1 q2 q3 ?_; intro qf0 qf1 qf2 qf3
  revert q0 q1 q2 q3; refine k5.m4 ?_; intro q0 q1 q2 q3
  replace K := hide ((unhide K).trans k5)
  have z6 := k5.size
  clear k5
  go_wp2_with fail
  refine (unhide i4 _).mono ?_
  rintro e w7 ⟨rfl, k7⟩
  revert qf0 qf1 qf2 qf3; refine k7.l4 q0 q1 q2 q3 ?_; intro qf0 qf1 qf2 qf3
  revert q0 q1 q2 q3; refine k7.m4 ?_; intro q0 q1 q2 q3
  replace K := hide ((unhide K).trans k7)
  have z8 := k7.size
  clear k7
  go_wp2_with fail
  refine (is_inf_inf n3 _).mono ?_
  rintro e w9 ⟨rfl, k9⟩
  revert qf0 qf1 qf2 qf3; refine k9.l4 q0 q1 q2 q3 ?_; intro qf0 qf1 qf2 qf3
  revert q0 q1 q2 q3; refine k9.m4 ?_; intro q0 q1 q2 q3
  replace K := hide ((unhide K).trans k9)
  have z10 := k9.size
  clear k9
  go_wp2_with fail
  refine (told_inf_t n3 _).mono ?_
  rintro e w11 ⟨rfl, k11⟩
  revert qf0 qf1 qf2 qf3; refine k11.l4 q0 q1 q2 q3 ?_; intro qf0 qf1 qf2 qf3
  revert q0 q1 q2 q3; refine k11.m4 ?_; intro q0 q1 q2 q3
  replace K := hide ((unhide K).trans k11)
  have z12 := k11.size
  clear k11
  have KF := hide (((((unhide K).setNew (p := ⟨w.heap.size, 0, none⟩) (by simp) (.int .i64 2)).setNew (p := ⟨w.heap.size, 1, none⟩) (by simp) (.bool n3)).setNew (p := ⟨w.heap.size, 2, none⟩) (by simp) (.int .i64 0)).setNew (p := ⟨w.heap.size, 3, none⟩) (by simp) (.int .i64 0))
  clear K
  try go_wp2_with fail
  exact bodyPost_ret (v := .tuple #[.agg #[.int .i64 2, .bool n3, .int .i64 0, .int .i64 0], .int .i64 0]) (by simp [results, Tryz.results37, go_sem, q0, q1, q2, q3]) rfl ⟨rfl, unhide KF⟩

set_option maxHeartbeats 2000000 in
theorem maI_c_nan {k1 : Int} {n1 : Bool} {m1 e1 k2 : Int} {n2 : Bool} {m2 e2 : Int} (h1 : flok k1 n1 m1 e1 = true) (h2 : flok k2 n2 m2 e2 = true) (j1 : k1 ≤ 1) (j2 : k2 ≤ 1) (n3 : Bool) (mode : Int) (w : World) :
    Calls Tryz.prog 37 #[ivl k1 n1 m1 e1, ivl k2 n2 m2 e2, .iface 115 (.agg #[.bool false]), .int .i64 mode] w fun e' w' => e' = .returned (.tuple #[flq (fmaQ k1 n1 m1 e1 k2 n2 m2 e2 3 false 0 0 mode).1, .int .i64 (fmaQ k1 n1 m1 e1 k2 n2 m2 e2 3 false 0 0 mode).2]) ∧ Kept 0 0 w w' := by
  have hQ : fmaQ k1 n1 m1 e1 k2 n2 m2 e2 3 false 0 0 mode = ((3, false, 0, 0), 0) := by
   unfold fmaQ
   rw [if_neg (show ¬ (2 ≤ k1 ∨ 2 ≤ k2) by omega), if_pos (by decide)]
  rw [hQ]
  clear hQ
  have i1 := fun w => isInf_no h1 (by omega) w
  have i2 := fun w => isNan_no h1 (by omega) w
  have i3 := fun w => isInf_no h2 (by omega) w
  have i4 := fun w => isNan_no h2 (by omega) w
  have gg := fun w => inv_nan_t w
  obtain ⟨I1, hI1⟩ : ∃ y, ivl k1 n1 m1 e1 = y := ⟨_, rfl⟩
  obtain ⟨I2, hI2⟩ : ∃ y, ivl k2 n2 m2 e2 = y := ⟨_, rfl⟩
  rw [hI1, hI2]
  simp only [hI1] at i1 i2
  simp only [hI2] at i3 i4
  clear hI1 hI2
  replace i1 := hide i1
  replace i2 := hide i2
  replace i3 := hide i3
  replace i4 := hide i4
  obtain ⟨Wn, hn0⟩ : ∃ wz, wz = (w.alloc (.cells #[.int .i64 0, .bool false, .int .i64 0, .int .i64 0] 24)) := ⟨_, rfl⟩
  have k0 : Kept 0 0 w Wn := by rw [hn0]; exact ((Kept.refl 0 0 w).alloc _)
  obtain ⟨q0, q1, q2, q3, qf0, qf1, qf2, qf3⟩ := new4 hn0 (n := w.heap.size) (by simp)
  have s0 : Wn.heap.size = w.heap.size + 1 := by rw [hn0]; exact by simp
  subst hn0
  have K := hide (k0)
  clear k0
  have S0 := hide s0
  clear s0
  go_enter Tryz.func37, Tryz.ntmps37
  go_wp2_with fail
  generalize (w.alloc (.cells #[.int .i64 0, .bool false, .int .i64 0, .int .i64 0] 24)) = W at *
  refine (unhide i1 _).mono ?_
  rintro e w1 ⟨rfl, k1⟩
  revert qf0 qf1 qf2 qf3; refine k1.l4 q0 q1 q2 q3 ?_; intro qf0 qf1 qf2 qf3
  revert q0 q1 q2 q3; refine k1.m4 ?_; intro q0 q1 q2 q3
  replace K := hide ((unhide K).trans k1)
  have z2 := k1.size
  clear k1
  go_wp2_with fail
  refine (unhide i2 _).mono ?_
  rintro e w3 ⟨rfl, k3⟩
  revert qf0 qf1 qf2 qf3; refine k3.l4 q0 q1 q2 q3 ?_; intro qf0 qf1 qf2 qf3
  revert q0 q1 q2 q3; refine k3.m4 ?_; intro q0 q1 q2 q3
  replace K := hide ((unhide K).trans k3)
  have z4 := k3.size
  clear k3
  go_wp2_with fail
  refine (unhide i3 _).mono ?_
  rintro e w5 ⟨rfl, k5⟩
  revert qf0 qf1 qf2 qf3; refine k5.l4 q0 q1 q2 q3 ?_; intro qf0 qf1 qf2 qf3
  revert q0 q1 q2 q3; refine k5.m4 ?_; intro q0 q1 q2 q3
  replace K := hide ((unhide K).trans k5)
  have z6 := k5.size
  clear k5
  go_wp2_with fail
  refine (unhide i4 _).mono ?_
  rintro e w7 ⟨rfl, k7⟩
  revert qf0 qf1 qf2 qf3; refine k7.l4 q0 q1 q2 q3 ?_; intro qf0 qf1 qf2 qf3
  revert q0 q1 q2 q3; refine k7.m4 ?_; intro q0 q1 q2 q3
  replace K := hide ((unhide K).trans k7)
  have z8 := k7.size
  clear k7
  go_wp2_with fail
  refine (is_inf_nan _).mono ?_
  rintro e w9 ⟨rfl, k9⟩
  revert qf0 qf1 qf2 qf3; refine k9.l4 q0 q1 q2 q3 ?_; intro qf0 qf1 qf2 qf3
  revert q0 q1 q2 q3; refine k9.m4 ?_; intro q0 q1 q2 q3
  replace K := hide ((unhide K).trans k9)
  have z10 := k9.size
  clear k9
  go_wp2_with fail
  refine (is_nan_nan _).mono ?_
  rintro e w11 ⟨rfl, k11⟩
  revert qf0 qf1 qf2 qf3; refine k11.l4 q0 q1 q2 q3 ?_; intro qf0 qf1 qf2 qf3
  revert q0 q1 q2 q3; refine k11.m4 ?_; intro q0 q1 q2 q3
  replace K := hide ((unhide K).trans k11)
  have z12 := k11.size
  clear k11
  go_wp2_with fail
  refine (told_nan_t _).mono ?_
  rintro e w13 ⟨rfl, k13⟩
  revert qf0 qf1 qf2 qf3; refine k13.l4 q0 q1 q2 q3 ?_; intro qf0 qf1 qf2 qf3
  revert q0 q1 q2 q3; refine k13.m4 ?_; intro q0 q1 q2 q3
  replace K := hide ((unhide K).trans k13)
  have z14 := k13.size
  clear k13
  have KF := hide (((((unhide K).setNew (p := ⟨w.heap.size, 0, none⟩) (by simp) (.int .i64 3)).setNew (p := ⟨w.heap.size, 1, none⟩) (by simp) (.bool false)).setNew (p := ⟨w.heap.size, 2, none⟩) (by simp) (.int .i64 0)).setNew (p := ⟨w.heap.size, 3, none⟩) (by simp) (.int .i64 0))
  clear K
  try go_wp2_with fail
  exact bodyPost_ret (v := .tuple #[.agg #[.int .i64 3, .bool false, .int .i64 0, .int .i64 0], .int .i64 0]) (by simp [results, Tryz.results37, go_sem, q0, q1, q2, q3]) rfl ⟨rfl, unhide KF⟩

theorem maI_any {k1 : Int} {n1 : Bool} {m1 e1 k2 : Int} {n2 : Bool} {m2 e2 k3 : Int} {n3 : Bool} {m3 e3 : Int} (h1 : flok k1 n1 m1 e1 = true) (h2 : flok k2 n2 m2 e2 = true) (h3 : flok k3 n3 m3 e3 = true) (mode : Int) (hm0 : 0 ≤ mode) (hm4 : mode ≤ 4) (w : World) (T : TabB w) :
    Calls Tryz.prog 37 #[ivl k1 n1 m1 e1, ivl k2 n2 m2 e2, ivl k3 n3 m3 e3, .int .i64 mode] w fun e' w' => e' = .returned (.tuple #[flq (fmaQ k1 n1 m1 e1 k2 n2 m2 e2 k3 n3 m3 e3 mode).1, .int .i64 (fmaQ k1 n1 m1 e1 k2 n2 m2 e2 k3 n3 m3 e3 mode).2]) ∧ Kept 0 0 w w' := by
  by_cases hs : 2 ≤ k1 ∨ 2 ≤ k2
  ·exact maI_sp h1 h2 h3 hs mode hm0 hm4 w T
  ·rcases flok_ways h3 with ⟨g, -⟩ | ⟨g, -⟩ | ⟨rfl, rfl, rfl⟩ | ⟨rfl, rfl, rfl, rfl⟩
   ·exact maI_fin h1 h2 h3 (by omega) (by omega) (by omega) mode hm0 hm4 w T
   ·exact maI_fin h1 h2 h3 (by omega) (by omega) (by omega) mode hm0 hm4 w T
   ·exact maI_c_inf h1 h2 (by omega) (by omega) n3 mode w
   ·exact maI_c_nan h1 h2 (by omega) (by omega) false mode w

end Go.Proofs.YtepehpkmejjhiaaGreatDoor

