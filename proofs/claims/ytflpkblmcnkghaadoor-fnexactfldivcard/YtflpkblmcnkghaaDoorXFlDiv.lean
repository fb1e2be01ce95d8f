/-
  Quotients of floats: FlDiv of the program, and the walk of the law FnExactFlDiv.
-/
import Derived.Test.YtflpkblmcnkghaaDoorFdv2
import Derived.Test.YtflpkblmcnkghaaDoorFdv3
import Derived.Deep.RegionHeld3
import Derived.Deep.DeepCutAuto
namespace Go.Proofs.YtflpkblmcnkghaaDoor
open Go.RowKit
set_option linter.unusedVariables false
set_option maxRecDepth 8000
set_option linter.unusedSimpArgs false

theorem in_impl_floatOf_t : ∀ (w : World) (args : Array Value), (callFunc 22 args).run Tryd.prog w = .ok (.enter 22 args) w := enters Tryd.func22 (by decide) (fun h => by cases h)

theorem in_impl_divideFloats_t : ∀ (w : World) (args : Array Value), (callFunc 21 args).run Tryd.prog w = .ok (.enter 21 args) w := enters Tryd.func21 (by decide) (fun h => by cases h)

theorem in_laws_toFl_t : ∀ (w : World) (args : Array Value), (callFunc 6 args).run Tryd.prog w = .ok (.enter 6 args) w := enters Tryd.func6 (by decide) (fun h => by cases h)

theorem in_spec_FlDiv_t : ∀ (w : World) (args : Array Value), (callFunc 5 args).run Tryd.prog w = .ok (.enter 5 args) w := enters Tryd.func5 (by decide) (fun h => by cases h)

theorem in_impl_FlDiv_t : ∀ (w : World) (args : Array Value), (callFunc 7 args).run Tryd.prog w = .ok (.enter 7 args) w := enters Tryd.func7 (by decide) (fun h => by cases h)

theorem divI_any {k1 : Int} {n1 : Bool} {m1 e1 k2 : Int} {n2 : Bool} {m2 e2 : Int} (h1 : flok k1 n1 m1 e1 = true) (h2 : flok k2 n2 m2 e2 = true) (mode : Int) (hm0 : 0 ≤ mode) (hm4 : mode ≤ 4) (w : World) (T : TabB w) :
    Calls Tryd.prog 21 #[ivl k1 n1 m1 e1, ivl k2 n2 m2 e2, .int .i64 mode] w fun e' w' => e' = .returned (.tuple #[flq (dvQ k1 n1 m1 e1 k2 n2 m2 e2 mode).1, .int .i64 (dvQ k1 n1 m1 e1 k2 n2 m2 e2 mode).2]) ∧ Kept 0 0 w w' := by
  rcases flok_ways h1 with ⟨rfl, a11, a21, a31, a41, -⟩ | ⟨rfl, rfl, rfl⟩ | ⟨rfl, rfl, rfl⟩ | ⟨rfl, rfl, rfl, rfl⟩
  ·rcases flok_ways h2 with ⟨rfl, a12, a22, a32, a42, -⟩ | ⟨rfl, rfl, rfl⟩ | ⟨rfl, rfl, rfl⟩ | ⟨rfl, rfl, rfl, rfl⟩
   ·exact divI_num_num n1 m1 e1 n2 m2 e2 a11 a21 a31 a41 a12 a22 a32 a42 mode hm0 hm4 w T
   ·exact divI_num_nought n1 m1 e1 n2 a11 a21 a31 a41 mode hm0 hm4 w
   ·exact divI_num_inf n1 m1 e1 n2 a11 a21 a31 a41 mode hm0 hm4 w
   ·exact divI_num_nan n1 m1 e1 a11 a21 a31 a41 mode hm0 hm4 w
  ·rcases flok_ways h2 with ⟨rfl, a12, a22, a32, a42, -⟩ | ⟨rfl, rfl, rfl⟩ | ⟨rfl, rfl, rfl⟩ | ⟨rfl, rfl, rfl, rfl⟩
   ·exact divI_nought_num n1 n2 m2 e2 a12 a22 a32 a42 mode hm0 hm4 w
   ·exact divI_nought_nought n1 n2 mode hm0 hm4 w
   ·exact divI_nought_inf n1 n2 mode hm0 hm4 w
   ·exact divI_nought_nan n1 mode hm0 hm4 w
  ·rcases flok_ways h2 with ⟨rfl, a12, a22, a32, a42, -⟩ | ⟨rfl, rfl, rfl⟩ | ⟨rfl, rfl, rfl⟩ | ⟨rfl, rfl, rfl, rfl⟩
   ·exact divI_inf_num n1 n2 m2 e2 a12 a22 a32 a42 mode hm0 hm4 w
   ·exact divI_inf_nought n1 n2 mode hm0 hm4 w
   ·exact divI_inf_inf n1 n2 mode hm0 hm4 w
   ·exact divI_inf_nan n1 mode hm0 hm4 w
  ·rcases flok_ways h2 with ⟨rfl, a12, a22, a32, a42, -⟩ | ⟨rfl, rfl, rfl⟩ | ⟨rfl, rfl, rfl⟩ | ⟨rfl, rfl, rfl, rfl⟩
   ·exact divI_nan_num n2 m2 e2 a12 a22 a32 a42 mode hm0 hm4 w
   ·exact divI_nan_nought n2 mode hm0 hm4 w
   ·exact divI_nan_inf n2 mode hm0 hm4 w
   ·exact divI_nan_nan mode hm0 hm4 w

set_option maxHeartbeats 2000000 in
theorem fldiv_impl (k1 : Int) (n1 : Bool) (m1 e1 k2 : Int) (n2 : Bool) (m2 e2 mode : Int) (w : World) (T : TabB w) :
    Calls Tryd.prog 7 #[flv k1 n1 m1 e1, flv k2 n2 m2 e2, .int .i64 mode] w fun e' w' => e' = .returned (.tuple #[flq (fdvQ k1 n1 m1 e1 k2 n2 m2 e2 mode).1, .int .i64 (fdvQ k1 n1 m1 e1 k2 n2 m2 e2 mode).2]) ∧ Kept 0 0 w w' := by
  obtain ⟨Q, hQ⟩ : ∃ q, fdvQ k1 n1 m1 e1 k2 n2 m2 e2 mode = q := ⟨_, rfl⟩
  rw [hQ]
  have HQ := hide hQ
  clear hQ
  obtain ⟨Wn, hn0⟩ : ∃ wz, wz = (((w.alloc (.cells #[.int .i64 k1, .bool n1, .int .i64 m1, .int .i64 e1] 24)).alloc (.cells #[.int .i64 k2, .bool n2, .int .i64 m2, .int .i64 e2] 24)).alloc (.cells #[.int .i64 0, .bool false, .int .i64 0, .int .i64 0] 24)) := ⟨_, rfl⟩
  have k0 : Kept 0 0 w Wn := by rw [hn0]; exact ((((Kept.refl 0 0 w).alloc _).alloc _).alloc _)
  have p0 : Wn.cell? ⟨w.heap.size, 0, none⟩ = some (.int .i64 k1) := by rw [hn0]; exact old_cell _ (old_cell _ (new_cell2 _ _ _ _ _ _ (by simp) rfl))
  have p1 : Wn.cell? ⟨w.heap.size, 1, none⟩ = some (.bool n1) := by rw [hn0]; exact old_cell _ (old_cell _ (new_cell2 _ _ _ _ _ _ (by simp) rfl))
  have p2 : Wn.cell? ⟨w.heap.size, 2, none⟩ = some (.int .i64 m1) := by rw [hn0]; exact old_cell _ (old_cell _ (new_cell2 _ _ _ _ _ _ (by simp) rfl))
  have p3 : Wn.cell? ⟨w.heap.size, 3, none⟩ = some (.int .i64 e1) := by rw [hn0]; exact old_cell _ (old_cell _ (new_cell2 _ _ _ _ _ _ (by simp) rfl))
  have t0 : Wn.cell? ⟨w.heap.size + 1, 0, none⟩ = some (.int .i64 k2) := by rw [hn0]; exact old_cell _ (new_cell2 _ _ _ _ _ _ (by simp) rfl)
  have t1 : Wn.cell? ⟨w.heap.size + 1, 1, none⟩ = some (.bool n2) := by rw [hn0]; exact old_cell _ (new_cell2 _ _ _ _ _ _ (by simp) rfl)
  have t2 : Wn.cell? ⟨w.heap.size + 1, 2, none⟩ = some (.int .i64 m2) := by rw [hn0]; exact old_cell _ (new_cell2 _ _ _ _ _ _ (by simp) rfl)
  have t3 : Wn.cell? ⟨w.heap.size + 1, 3, none⟩ = some (.int .i64 e2) := by rw [hn0]; exact old_cell _ (new_cell2 _ _ _ _ _ _ (by simp) rfl)
  have q0 : Wn.cell? ⟨w.heap.size + 2, 0, none⟩ = some (.int .i64 0) := by rw [hn0]; exact new_cell2 _ _ _ _ _ _ (by simp) rfl
  have qf0 : Wn.frozen? ⟨w.heap.size + 2, 0, none⟩ = false := by rw [hn0]; exact new_loose2 _ _ _ _ _ (by simp)
  have q1 : Wn.cell? ⟨w.heap.size + 2, 1, none⟩ = some (.bool false) := by rw [hn0]; exact new_cell2 _ _ _ _ _ _ (by simp) rfl
  have qf1 : Wn.frozen? ⟨w.heap.size + 2, 1, none⟩ = false := by rw [hn0]; exact new_loose2 _ _ _ _ _ (by simp)
  have q2 : Wn.cell? ⟨w.heap.size + 2, 2, none⟩ = some (.int .i64 0) := by rw [hn0]; exact new_cell2 _ _ _ _ _ _ (by simp) rfl
  have qf2 : Wn.frozen? ⟨w.heap.size + 2, 2, none⟩ = false := by rw [hn0]; exact new_loose2 _ _ _ _ _ (by simp)
  have q3 : Wn.cell? ⟨w.heap.size + 2, 3, none⟩ = some (.int .i64 0) := by rw [hn0]; exact new_cell2 _ _ _ _ _ _ (by simp) rfl
  have qf3 : Wn.frozen? ⟨w.heap.size + 2, 3, none⟩ = false := by rw [hn0]; exact new_loose2 _ _ _ _ _ (by simp)
  have s0 : Wn.heap.size = w.heap.size + 3 := by rw [hn0]; exact by simp
  subst hn0
  have K := hide (k0)
  clear k0
  have S0 := hide s0
  clear s0
  go_enter Tryd.func7, Tryd.ntmps7
  go_wp2_with fail
  generalize (((w.alloc (.cells #[.int .i64 k1, .bool n1, .int .i64 m1, .int .i64 e1] 24)).alloc (.cells #[.int .i64 k2, .bool n2, .int .i64 m2, .int .i64 e2] 24)).alloc (.cells #[.int .i64 0, .bool false, .int .i64 0, .int .i64 0] 24)) = W at *
  cases h1 : flok k1 n1 m1 e1
  ·refine (flok_impl_k h1 _).mono ?_
   rintro e w1 ⟨rfl, k1⟩
   replace qf0 := k1.loose0 (zbl q0) qf0
   replace qf1 := k1.loose0 (zbl q1) qf1
   replace qf2 := k1.loose0 (zbl q2) qf2
   replace qf3 := k1.loose0 (zbl q3) qf3
   replace p0 := k1.cell0 p0
   replace p1 := k1.cell0 p1
   replace p2 := k1.cell0 p2
   replace p3 := k1.cell0 p3
   replace t0 := k1.cell0 t0
   replace t1 := k1.cell0 t1
   replace t2 := k1.cell0 t2
   replace t3 := k1.cell0 t3
   replace q0 := k1.cell0 q0
   replace q1 := k1.cell0 q1
   replace q2 := k1.cell0 q2
   replace q3 := k1.cell0 q3
   replace K := hide ((unhide K).trans k1)
   have z2 := k1.size
   clear k1
   have FQ : Hid (Q = ((3, false, 0, 0), 16)) := by
    show _ = _
    have hc : okM k1 n1 m1 e1 k2 n2 m2 e2 mode = false := by unfold okM; rw [h1]; rfl
    rw [← unhide HQ]; unfold fdvQ; rw [hc]; rfl
   go_wp2_with fail
   refine (bad_impl _).mono ?_
   rintro e w3 ⟨rfl, k3⟩
   replace qf0 := k3.loose0 (zbl q0) qf0
   replace qf1 := k3.loose0 (zbl q1) qf1
   replace qf2 := k3.loose0 (zbl q2) qf2
   replace qf3 := k3.loose0 (zbl q3) qf3
   replace p0 := k3.cell0 p0
   replace p1 := k3.cell0 p1
   replace p2 := k3.cell0 p2
   replace p3 := k3.cell0 p3
   replace t0 := k3.cell0 t0
   replace t1 := k3.cell0 t1
   replace t2 := k3.cell0 t2
   replace t3 := k3.cell0 t3
   replace q0 := k3.cell0 q0
   replace q1 := k3.cell0 q1
   replace q2 := k3.cell0 q2
   replace q3 := k3.cell0 q3
   replace K := hide ((unhide K).trans k3)
   have z4 := k3.size
   clear k3
   have KF := hide (((((unhide K).setNew (p := ⟨w.heap.size + 2, 0, none⟩) (by simp) (.int .i64 3)).setNew (p := ⟨w.heap.size + 2, 1, none⟩) (by simp) (.bool false)).setNew (p := ⟨w.heap.size + 2, 2, none⟩) (by simp) (.int .i64 0)).setNew (p := ⟨w.heap.size + 2, 3, none⟩) (by simp) (.int .i64 0))
   clear K
   try go_wp2_with fail
   exact bodyPost_ret (v := .tuple #[.agg #[.int .i64 3, .bool false, .int .i64 0, .int .i64 0], .int .i64 16]) (by simp [results, Tryd.results7, go_sem, q0, q1, q2, q3]) rfl ⟨by rw [unhide FQ], unhide KF⟩
  refine (flok_impl_k h1 _).mono ?_
  rintro e w1 ⟨rfl, k1⟩
  replace qf0 := k1.loose0 (zbl q0) qf0
  replace qf1 := k1.loose0 (zbl q1) qf1
  replace qf2 := k1.loose0 (zbl q2) qf2
  replace qf3 := k1.loose0 (zbl q3) qf3
  replace p0 := k1.cell0 p0
  replace p1 := k1.cell0 p1
  replace p2 := k1.cell0 p2
  replace p3 := k1.cell0 p3
  replace t0 := k1.cell0 t0
  replace t1 := k1.cell0 t1
  replace t2 := k1.cell0 t2
  replace t3 := k1.cell0 t3
  replace q0 := k1.cell0 q0
  replace q1 := k1.cell0 q1
  replace q2 := k1.cell0 q2
  replace q3 := k1.cell0 q3
  replace K := hide ((unhide K).trans k1)
  have z2 := k1.size
  clear k1
  go_wp2_with fail
  cases h2 : flok k2 n2 m2 e2
  ·refine (flok_impl_k h2 _).mono ?_
   rintro e w3 ⟨rfl, k3⟩
   replace qf0 := k3.loose0 (zbl q0) qf0
   replace qf1 := k3.loose0 (zbl q1) qf1
   replace qf2 := k3.loose0 (zbl q2) qf2
   replace qf3 := k3.loose0 (zbl q3) qf3
   replace p0 := k3.cell0 p0
   replace p1 := k3.cell0 p1
   replace p2 := k3.cell0 p2
   replace p3 := k3.cell0 p3
   replace t0 := k3.cell0 t0
   replace t1 := k3.cell0 t1
   replace t2 := k3.cell0 t2
   replace t3 := k3.cell0 t3
   replace q0 := k3.cell0 q0
   replace q1 := k3.cell0 q1
   replace q2 := k3.cell0 q2
   replace q3 := k3.cell0 q3
   replace K := hide ((unhide K).trans k3)
   have z4 := k3.size
   clear k3
   have FQ : Hid (Q = ((3, false, 0, 0), 16)) := by
    show _ = _
    have hc : okM k1 n1 m1 e1 k2 n2 m2 e2 mode = false := by unfold okM; rw [h2]; simp
    rw [← unhide HQ]; unfold fdvQ; rw [hc]; rfl
   go_wp2_with fail
   refine (bad_impl _).mono ?_
   rintro e w5 ⟨rfl, k5⟩
   replace qf0 := k5.loose0 (zbl q0) qf0
   replace qf1 := k5.loose0 (zbl q1) qf1
   replace qf2 := k5.loose0 (zbl q2) qf2
   replace qf3 := k5.loose0 (zbl q3) qf3
   replace p0 := k5.cell0 p0
   replace p1 := k5.cell0 p1
   replace p2 := k5.cell0 p2
   replace p3 := k5.cell0 p3
   replace t0 := k5.cell0 t0
   replace t1 := k5.cell0 t1
   replace t2 := k5.cell0 t2
   replace t3 := k5.cell0 t3
   replace q0 := k5.cell0 q0
   replace q1 := k5.cell0 q1
   replace q2 := k5.cell0 q2
   replace q3 := k5.cell0 q3
   replace K := hide ((unhide K).trans k5)
   have z6 := k5.size
   clear k5
   have KF := hide (((((unhide K).setNew (p := ⟨w.heap.size + 2, 0, none⟩) (by simp) (.int .i64 3)).setNew (p := ⟨w.heap.size + 2, 1, none⟩) (by simp) (.bool false)).setNew (p := ⟨w.heap.size + 2, 2, none⟩) (by simp) (.int .i64 0)).setNew (p := ⟨w.heap.size + 2, 3, none⟩) (by simp) (.int .i64 0))
   clear K
   try go_wp2_with fail
   exact bodyPost_ret (v := .tuple #[.agg #[.int .i64 3, .bool false, .int .i64 0, .int .i64 0], .int .i64 16]) (by simp [results, Tryd.results7, go_sem, q0, q1, q2, q3]) rfl ⟨by rw [unhide FQ], unhide KF⟩
  refine (flok_impl_k h2 _).mono ?_
  rintro e w3 ⟨rfl, k3⟩
  replace qf0 := k3.loose0 (zbl q0) qf0
  replace qf1 := k3.loose0 (zbl q1) qf1
  replace qf2 := k3.loose0 (zbl q2) qf2
  replace qf3 := k3.loose0 (zbl q3) qf3
  replace p0 := k3.cell0 p0
  replace p1 := k3.cell0 p1
  replace p2 := k3.cell0 p2
  replace p3 := k3.cell0 p3
  replace t0 := k3.cell0 t0
  replace t1 := k3.cell0 t1
  replace t2 := k3.cell0 t2
  replace t3 := k3.cell0 t3
  replace q0 := k3.cell0 q0
  replace q1 := k3.cell0 q1
  replace q2 := k3.cell0 q2
  replace q3 := k3.cell0 q3
  replace K := hide ((unhide K).trans k3)
  have z4 := k3.size
  clear k3
  go_wp2_with fail
  refine (isMode_impl mode _).mono ?_
  rintro e w5 ⟨rfl, rfl⟩
  cases hm : modeB mode
  ·have FQ : Hid (Q = ((3, false, 0, 0), 16)) := by
    show _ = _
    have hc : okM k1 n1 m1 e1 k2 n2 m2 e2 mode = false := by unfold okM; rw [hm]; simp
    rw [← unhide HQ]; unfold fdvQ; rw [hc]; rfl
   go_wp2_with fail
   refine (bad_impl _).mono ?_
   rintro e w5 ⟨rfl, k5⟩
   replace qf0 := k5.loose0 (zbl q0) qf0
   replace qf1 := k5.loose0 (zbl q1) qf1
   replace qf2 := k5.loose0 (zbl q2) qf2
   replace qf3 := k5.loose0 (zbl q3) qf3
   replace p0 := k5.cell0 p0
   replace p1 := k5.cell0 p1
   replace p2 := k5.cell0 p2
   replace p3 := k5.cell0 p3
   replace t0 := k5.cell0 t0
   replace t1 := k5.cell0 t1
   replace t2 := k5.cell0 t2
   replace t3 := k5.cell0 t3
   replace q0 := k5.cell0 q0
   replace q1 := k5.cell0 q1
   replace q2 := k5.cell0 q2
   replace q3 := k5.cell0 q3
   replace K := hide ((unhide K).trans k5)
   have z6 := k5.size
   clear k5
   have KF := hide (((((unhide K).setNew (p := ⟨w.heap.size + 2, 0, none⟩) (by simp) (.int .i64 3)).setNew (p := ⟨w.heap.size + 2, 1, none⟩) (by simp) (.bool false)).setNew (p := ⟨w.heap.size + 2, 2, none⟩) (by simp) (.int .i64 0)).setNew (p := ⟨w.heap.size + 2, 3, none⟩) (by simp) (.int .i64 0))
   clear K
   try go_wp2_with fail
   exact bodyPost_ret (v := .tuple #[.agg #[.int .i64 3, .bool false, .int .i64 0, .int .i64 0], .int .i64 16]) (by simp [results, Tryd.results7, go_sem, q0, q1, q2, q3]) rfl ⟨by rw [unhide FQ], unhide KF⟩
  have hc : okM k1 n1 m1 e1 k2 n2 m2 e2 mode = true := by unfold okM; rw [h1, h2, hm]; rfl
  obtain ⟨-, -, h3, h4⟩ := okM_iff hc
  have hM : dvQ k1 n1 m1 e1 k2 n2 m2 e2 mode = Q := by rw [← unhide HQ]; unfold fdvQ; rw [hc, if_pos rfl]
  have HM := hide hM
  have H1 := hide h1
  have H2 := hide h2
  clear hc hM hm h1 h2
  go_wp2_with fail
  obtain ⟨I1, hI1⟩ : ∃ y, ivl k1 n1 m1 e1 = y := ⟨_, rfl⟩
  obtain ⟨I2, hI2⟩ : ∃ y, ivl k2 n2 m2 e2 = y := ⟨_, rfl⟩
  have mf1 := fun w => fo_any (unhide H1) w
  have mf2 := fun w => fo_any (unhide H2) w
  have mm := fun (w : World) (T : TabB w) => divI_any (unhide H1) (unhide H2) mode h3 h4 w T
  simp only [hI1] at mf1 mm
  simp only [hI2] at mf2 mm
  simp only [unhide HM] at mm
  replace mf1 := hide mf1
  replace mf2 := hide mf2
  replace mm := hide mm
  clear hI1 hI2
  have n_qf0 := qf0
  have n_q0 := q0
  have n_qf1 := qf1
  have n_q1 := q1
  have n_qf2 := qf2
  have n_q2 := q2
  have n_qf3 := qf3
  have n_q3 := q3
  have kd := (Kept.refl 0 0 w5).drew
  replace qf0 := kd.loose0 (zbl q0) qf0
  replace qf1 := kd.loose0 (zbl q1) qf1
  replace qf2 := kd.loose0 (zbl q2) qf2
  replace qf3 := kd.loose0 (zbl q3) qf3
  replace p0 := kd.cell0 p0
  replace p1 := kd.cell0 p1
  replace p2 := kd.cell0 p2
  replace p3 := kd.cell0 p3
  replace t0 := kd.cell0 t0
  replace t1 := kd.cell0 t1
  replace t2 := kd.cell0 t2
  replace t3 := kd.cell0 t3
  replace q0 := kd.cell0 q0
  replace q1 := kd.cell0 q1
  replace q2 := kd.cell0 q2
  replace q3 := kd.cell0 q3
  replace K := hide ((unhide K).trans kd)
  have z5 := kd.size
  clear kd
  refine wp_region_held_drew (S := (fun w' => w'.cell? ⟨w.heap.size, 0, none⟩ = some (.int .i64 k1) ∧ w'.cell? ⟨w.heap.size, 1, none⟩ = some (.bool n1) ∧ w'.cell? ⟨w.heap.size, 2, none⟩ = some (.int .i64 m1) ∧ w'.cell? ⟨w.heap.size, 3, none⟩ = some (.int .i64 e1) ∧ w'.cell? ⟨w.heap.size + 1, 0, none⟩ = some (.int .i64 k2) ∧ w'.cell? ⟨w.heap.size + 1, 1, none⟩ = some (.bool n2) ∧ w'.cell? ⟨w.heap.size + 1, 2, none⟩ = some (.int .i64 m2) ∧ w'.cell? ⟨w.heap.size + 1, 3, none⟩ = some (.int .i64 e2))) (by kernel_rfl) ?_ (fun hH => ?_)
  ·exact ⟨p0, p1, p2, p3, t0, t1, t2, t3⟩
  refine wpAnyH_take (i := 0) (v := .agg #[.int .i64 k1, .bool n1, .int .i64 m1, .int .i64 e1]) rfl (by kernel_rfl) (by kernel_rfl) (by kernel_rfl) (fun _ _ _ h => h) (Or.inl ⟨by rfl, ?_⟩) hH ?_
  ·intro wq hSw
   try dsimp only at hSw
   go_simp
  try simp only [Act.put, zq1, zq2, zq3, zq4, zq5, zq6]
  refine wpAnyH_take (i := 2) (v := .agg #[.int .i64 k2, .bool n2, .int .i64 m2, .int .i64 e2]) rfl (by kernel_rfl) (by kernel_rfl) (by kernel_rfl) (fun _ _ _ h => h) (Or.inl ⟨by rfl, ?_⟩) hH ?_
  ·intro wq hSw
   try dsimp only at hSw
   go_simp
  try simp only [Act.put, zq1, zq2, zq3, zq4, zq5, zq6]
  refine wpAnyH_take (i := 4) (v := .int .i64 mode) rfl (by kernel_rfl) (by kernel_rfl) (by kernel_rfl) (fun _ _ _ h => h) (Or.inl ⟨by rfl, ?_⟩) hH ?_
  ·intro wq hSw
   try dsimp only at hSw
   go_simp
  try simp only [Act.put, zq1, zq2, zq3, zq4, zq5, zq6]
  refine wpAnyH_ready (rs := [1]) (by kernel_rfl) (by simp) ?_
  refine AllReadyH.cons rfl (fun KK hK => ?_) AllReadyH.nil
  simp only [zq1, zq2, zq3]
  rw [if_pos (by rfl)]
  refine wps1 22 (.tmp 24) _ rfl in_impl_floatOf_t (.agg #[.int .i64 k1, .bool n1, .int .i64 m1, .int .i64 e1]) rfl (unhide mf1 _) ?_
  rintro e w6 ⟨rfl, k6⟩
  refine ⟨_, rfl, ?_⟩
  replace qf0 := k6.loose0 (zbl q0) qf0
  replace qf1 := k6.loose0 (zbl q1) qf1
  replace qf2 := k6.loose0 (zbl q2) qf2
  replace qf3 := k6.loose0 (zbl q3) qf3
  replace p0 := k6.cell0 p0
  replace p1 := k6.cell0 p1
  replace p2 := k6.cell0 p2
  replace p3 := k6.cell0 p3
  replace t0 := k6.cell0 t0
  replace t1 := k6.cell0 t1
  replace t2 := k6.cell0 t2
  replace t3 := k6.cell0 t3
  replace q0 := k6.cell0 q0
  replace q1 := k6.cell0 q1
  replace q2 := k6.cell0 q2
  replace q3 := k6.cell0 q3
  replace K := hide ((unhide K).trans k6)
  have z7 := k6.size
  clear k6
  clear hH
  refine hK.out _ _ ?_ (fun hH => ?_)
  ·exact ⟨p0, p1, p2, p3, t0, t1, t2, t3⟩
  clear hK KK
  try simp only [Act.put, zq1, zq2, zq3, zq4, zq5, zq6]
  refine wpAnyH_ready (rs := [3]) (by kernel_rfl) (by simp) ?_
  refine AllReadyH.cons rfl (fun KK hK => ?_) AllReadyH.nil
  simp only [zq1, zq2, zq3]
  rw [if_pos (by rfl)]
  refine wps1 22 (.tmp 26) _ rfl in_impl_floatOf_t (.agg #[.int .i64 k2, .bool n2, .int .i64 m2, .int .i64 e2]) rfl (unhide mf2 _) ?_
  rintro e w8 ⟨rfl, k8⟩
  refine ⟨_, rfl, ?_⟩
  replace qf0 := k8.loose0 (zbl q0) qf0
  replace qf1 := k8.loose0 (zbl q1) qf1
  replace qf2 := k8.loose0 (zbl q2) qf2
  replace qf3 := k8.loose0 (zbl q3) qf3
  replace p0 := k8.cell0 p0
  replace p1 := k8.cell0 p1
  replace p2 := k8.cell0 p2
  replace p3 := k8.cell0 p3
  replace t0 := k8.cell0 t0
  replace t1 := k8.cell0 t1
  replace t2 := k8.cell0 t2
  replace t3 := k8.cell0 t3
  replace q0 := k8.cell0 q0
  replace q1 := k8.cell0 q1
  replace q2 := k8.cell0 q2
  replace q3 := k8.cell0 q3
  replace K := hide ((unhide K).trans k8)
  have z9 := k8.size
  clear k8
  clear hH
  refine hK.out _ _ ?_ (fun hH => ?_)
  ·exact ⟨p0, p1, p2, p3, t0, t1, t2, t3⟩
  clear hK KK
  try simp only [Act.put, zq1, zq2, zq3, zq4, zq5, zq6]
  refine wpAnyH_ready (rs := [5]) (by kernel_rfl) (by simp) ?_
  refine AllReadyH.cons rfl (fun KK hK => ?_) AllReadyH.nil
  simp only [zq1, zq2, zq3]
  rw [if_pos (by rfl)]
  refine wps3 21 (.tmp 25) (.tmp 27) (.tmp 28) _ rfl in_impl_divideFloats_t I1 I2 (.int .i64 mode) rfl rfl rfl (unhide mm _ (T.kept (unhide K))) ?_
  rintro e w10 ⟨rfl, k10⟩
  refine ⟨_, rfl, ?_⟩
  replace qf0 := k10.loose0 (zbl q0) qf0
  replace qf1 := k10.loose0 (zbl q1) qf1
  replace qf2 := k10.loose0 (zbl q2) qf2
  replace qf3 := k10.loose0 (zbl q3) qf3
  replace p0 := k10.cell0 p0
  replace p1 := k10.cell0 p1
  replace p2 := k10.cell0 p2
  replace p3 := k10.cell0 p3
  replace t0 := k10.cell0 t0
  replace t1 := k10.cell0 t1
  replace t2 := k10.cell0 t2
  replace t3 := k10.cell0 t3
  replace q0 := k10.cell0 q0
  replace q1 := k10.cell0 q1
  replace q2 := k10.cell0 q2
  replace q3 := k10.cell0 q3
  replace K := hide ((unhide K).trans k10)
  have z11 := k10.size
  clear k10
  clear hH
  refine hK.out _ _ ?_ (fun hH => ?_)
  ·exact ⟨p0, p1, p2, p3, t0, t1, t2, t3⟩
  clear hK KK
  try simp only [Act.put, zq1, zq2, zq3, zq4, zq5, zq6]
  refine wpAnyH_take (i := 6) (v := .agg #[.int .i64 Q.1.1, .bool Q.1.2.1, .int .i64 Q.1.2.2.1, .int .i64 Q.1.2.2.2]) rfl (by kernel_rfl) (by kernel_rfl) (by kernel_rfl) (fun _ _ _ h => h) (Or.inl ⟨by rfl, ?_⟩) hH ?_
  ·intro wq hSw
   try dsimp only at hSw
   go_simp
  try simp only [Act.put, zq1, zq2, zq3, zq4, zq5, zq6]
  refine wpAnyH_take (i := 7) (v := .int .i64 Q.2) rfl (by kernel_rfl) (by kernel_rfl) (by kernel_rfl) (fun _ _ _ h => h) (Or.inl ⟨by rfl, ?_⟩) hH ?_
  ·intro wq hSw
   try dsimp only at hSw
   go_simp
  try simp only [Act.put, zq1, zq2, zq3, zq4, zq5, zq6]
  refine wpAnyH_ready (rs := [8]) (by kernel_rfl) (by simp) ?_
  refine AllReadyH.cons rfl (fun KK hK => ?_) AllReadyH.nil
  simp only [zq1, zq2, zq3]
  rw [if_pos (by rfl)]
  go_simp
  clear hH
  refine hK.out _ _ ?_ (fun hH => ?_)
  ·exact ⟨(cell_aside _ (by have := unhide S0; dsimp only; omega) (cw3 (by have := unhide S0; dsimp only; omega) p0)), (cell_aside _ (by have := unhide S0; dsimp only; omega) (cw3 (by have := unhide S0; dsimp only; omega) p1)), (cell_aside _ (by have := unhide S0; dsimp only; omega) (cw3 (by have := unhide S0; dsimp only; omega) p2)), (cell_aside _ (by have := unhide S0; dsimp only; omega) (cw3 (by have := unhide S0; dsimp only; omega) p3)), (cell_aside _ (by have := unhide S0; dsimp only; omega) (cw3 (by have := unhide S0; dsimp only; omega) t0)), (cell_aside _ (by have := unhide S0; dsimp only; omega) (cw3 (by have := unhide S0; dsimp only; omega) t1)), (cell_aside _ (by have := unhide S0; dsimp only; omega) (cw3 (by have := unhide S0; dsimp only; omega) t2)), (cell_aside _ (by have := unhide S0; dsimp only; omega) (cw3 (by have := unhide S0; dsimp only; omega) t3))⟩
  clear hK KK
  try simp only [Act.put, zq1, zq2, zq3, zq4, zq5, zq6]
  refine wpAnyH_take (i := 9) (v := .int .i64 Q.2) rfl (by kernel_rfl) (by kernel_rfl) (by kernel_rfl) (fun _ _ _ h => h) (Or.inl ⟨by rfl, ?_⟩) hH ?_
  ·intro wq hSw
   try dsimp only at hSw
   go_simp
  try simp only [Act.put, zq1, zq2, zq3, zq4, zq5, zq6]
  refine wpAnyH_done (by kernel_rfl) ?_ _
  clear hH
  have KF := hide (((((unhide K).setNew (p := ⟨w.heap.size + 2, 0, none⟩) (by simp) (.int .i64 Q.1.1)).setNew (p := ⟨w.heap.size + 2, 1, none⟩) (by simp) (.bool Q.1.2.1)).setNew (p := ⟨w.heap.size + 2, 2, none⟩) (by simp) (.int .i64 Q.1.2.2.1)).setNew (p := ⟨w.heap.size + 2, 3, none⟩) (by simp) (.int .i64 Q.1.2.2.2))
  clear K
  try go_wp2_with fail
  exact bodyPost_ret (v := .tuple #[.agg #[.int .i64 Q.1.1, .bool Q.1.2.1, .int .i64 Q.1.2.2.1, .int .i64 Q.1.2.2.2], .int .i64 Q.2]) (by simp [results, Tryd.results7, go_sem, q0, q1, q2, q3]) rfl ⟨rfl, unhide KF⟩

theorem eqFl_k2 (k : Int) (n : Bool) (m e : Int) (w : World) :
    Calls Tryd.prog 8 #[flv k n m e, flv k n m e] w fun r w' => r = .returned (.bool true) ∧ Kept 0 0 w w' :=
  (eqFl_same k n m e w).mono (fun e w' h => ⟨h.1, by rw [h.2]; exact ((Kept.refl 0 0 w).alloc _).alloc _⟩)
theorem FB.set4 {w : World} {X : Nat} {p q r t : Value} (k : Int) (n : Bool) (m e : Int) (h0 : w.cell? ⟨X, 0, none⟩ = some p) (h1 : w.cell? ⟨X, 1, none⟩ = some q) (h2 : w.cell? ⟨X, 2, none⟩ = some r) (h3 : w.cell? ⟨X, 3, none⟩ = some t) :
    FB ((((w.setCell ⟨X, 0, none⟩ (.int .i64 k)).setCell ⟨X, 1, none⟩ (.bool n)).setCell ⟨X, 2, none⟩ (.int .i64 m)).setCell ⟨X, 3, none⟩ (.int .i64 e)) X k n m e :=
  ⟨by have := zbl h0; simpa [World.setCell] using this,
   cell_off _ _ _ _ _ _ (cell_off _ _ _ _ _ _ (cell_off _ _ _ _ _ _ (cell_on _ _ _ _ _ h0) (by decide)) (by decide)) (by decide),
   cell_off _ _ _ _ _ _ (cell_off _ _ _ _ _ _ (cell_on _ _ _ _ _ (cell_off _ _ _ _ _ _ h1 (by decide))) (by decide)) (by decide),
   cell_off _ _ _ _ _ _ (cell_on _ _ _ _ _ (cell_off _ _ _ _ _ _ (cell_off _ _ _ _ _ _ h2 (by decide)) (by decide))) (by decide),
   cell_on _ _ _ _ _ (cell_off _ _ _ _ _ _ (cell_off _ _ _ _ _ _ (cell_off _ _ _ _ _ _ h3 (by decide)) (by decide)) (by decide))⟩

set_option maxHeartbeats 4000000 in
theorem law_FlDiv (k1 : Int) (n1 : Bool) (m1 e1 : Int) (_ : (Lit.int .i64 m1).wf = true) (_ : (Lit.int .i64 e1).wf = true) (k2 : Int) (n2 : Bool) (m2 e2 : Int) (_ : (Lit.int .i64 m2).wf = true) (_ : (Lit.int .i64 e2).wf = true) (mode : Int) (_ : (Lit.int .i64 mode).wf = true) (w : World) (T : TabB w) :
    Calls Tryd.prog 3 #[flv k1 n1 m1 e1, flv k2 n2 m2 e2, .int .i64 mode] w fun e w' => e = .returned (.bool true) ∧ Below w.heap.size w w' := by
  obtain ⟨Q, hQ⟩ : ∃ q, fdvQ k1 n1 m1 e1 k2 n2 m2 e2 mode = q := ⟨_, rfl⟩
  have ms := fun w => fldiv_spec k1 n1 m1 e1 k2 n2 m2 e2 mode w
  have mi := fun (w : World) (T : TabB w) => fldiv_impl k1 n1 m1 e1 k2 n2 m2 e2 mode w T
  simp only [hQ] at ms mi
  replace ms := hide ms
  replace mi := hide mi
  clear hQ
  obtain ⟨Wn, hn0⟩ : ∃ wz, wz = ((w.alloc (.cells #[.int .i64 k1, .bool n1, .int .i64 m1, .int .i64 e1] 23)).alloc (.cells #[.int .i64 k2, .bool n2, .int .i64 m2, .int .i64 e2] 23)) := ⟨_, rfl⟩
  have k0 : Kept 0 0 w Wn := by rw [hn0]; exact (((Kept.refl 0 0 w).alloc _).alloc _)
  have p0 : Wn.cell? ⟨w.heap.size, 0, none⟩ = some (.int .i64 k1) := by rw [hn0]; exact old_cell _ (new_cell2 _ _ _ _ _ _ (by simp) rfl)
  have p1 : Wn.cell? ⟨w.heap.size, 1, none⟩ = some (.bool n1) := by rw [hn0]; exact old_cell _ (new_cell2 _ _ _ _ _ _ (by simp) rfl)
  have p2 : Wn.cell? ⟨w.heap.size, 2, none⟩ = some (.int .i64 m1) := by rw [hn0]; exact old_cell _ (new_cell2 _ _ _ _ _ _ (by simp) rfl)
  have p3 : Wn.cell? ⟨w.heap.size, 3, none⟩ = some (.int .i64 e1) := by rw [hn0]; exact old_cell _ (new_cell2 _ _ _ _ _ _ (by simp) rfl)
  have t0 : Wn.cell? ⟨w.heap.size + 1, 0, none⟩ = some (.int .i64 k2) := by rw [hn0]; exact new_cell2 _ _ _ _ _ _ (by simp) rfl
  have t1 : Wn.cell? ⟨w.heap.size + 1, 1, none⟩ = some (.bool n2) := by rw [hn0]; exact new_cell2 _ _ _ _ _ _ (by simp) rfl
  have t2 : Wn.cell? ⟨w.heap.size + 1, 2, none⟩ = some (.int .i64 m2) := by rw [hn0]; exact new_cell2 _ _ _ _ _ _ (by simp) rfl
  have t3 : Wn.cell? ⟨w.heap.size + 1, 3, none⟩ = some (.int .i64 e2) := by rw [hn0]; exact new_cell2 _ _ _ _ _ _ (by simp) rfl
  have s0 : Wn.heap.size = w.heap.size + 2 := by rw [hn0]; exact by simp
  subst hn0
  have K := hide (k0)
  clear k0
  have S0 := hide s0
  clear s0
  go_enter Tryd.func3, Tryd.ntmps3
  go_upto_region 1 with fail
  generalize ((w.alloc (.cells #[.int .i64 k1, .bool n1, .int .i64 m1, .int .i64 e1] 23)).alloc (.cells #[.int .i64 k2, .bool n2, .int .i64 m2, .int .i64 e2] 23)) = W at *
  go_cut [7, 8] (fun p g wx => ∃ X, p = .pointer (some ⟨X, 0, none⟩) ∧ g = .int .i64 Q.2 ∧ FB wx X Q.1.1 Q.1.2.1 Q.1.2.2.1 Q.1.2.2.2 ∧ Kept 0 0 W wx)
  case first =>
   have kw := Kept.refl 0 0 W
   have kd := (Kept.refl 0 0 W).drew
   replace kw := kw.trans kd
   replace p0 := kd.cell0 p0
   replace p1 := kd.cell0 p1
   replace p2 := kd.cell0 p2
   replace p3 := kd.cell0 p3
   replace t0 := kd.cell0 t0
   replace t1 := kd.cell0 t1
   replace t2 := kd.cell0 t2
   replace t3 := kd.cell0 t3
   replace K := hide ((unhide K).trans kd)
   have z1 := kd.size
   clear kd
   refine wp_region_held_drew (S := (fun w' => w'.cell? ⟨w.heap.size, 0, none⟩ = some (.int .i64 k1) ∧ w'.cell? ⟨w.heap.size, 1, none⟩ = some (.bool n1) ∧ w'.cell? ⟨w.heap.size, 2, none⟩ = some (.int .i64 m1) ∧ w'.cell? ⟨w.heap.size, 3, none⟩ = some (.int .i64 e1) ∧ w'.cell? ⟨w.heap.size + 1, 0, none⟩ = some (.int .i64 k2) ∧ w'.cell? ⟨w.heap.size + 1, 1, none⟩ = some (.bool n2) ∧ w'.cell? ⟨w.heap.size + 1, 2, none⟩ = some (.int .i64 m2) ∧ w'.cell? ⟨w.heap.size + 1, 3, none⟩ = some (.int .i64 e2))) (by kernel_rfl) ?_ (fun hH => ?_)
   ·exact ⟨p0, p1, p2, p3, t0, t1, t2, t3⟩
   generalize W.drew = wd2 at *
   refine wpAnyH_take (i := 0) (v := .agg #[.int .i64 k1, .bool n1, .int .i64 m1, .int .i64 e1]) rfl (by kernel_rfl) (by kernel_rfl) (by kernel_rfl) (fun _ _ _ h => h) (Or.inl ⟨by rfl, ?_⟩) hH ?_
   ·intro wq hSw
    try dsimp only at hSw
    go_simp
   try simp only [Act.put, zq1, zq2, zq3, zq4, zq5, zq6]
   refine wpAnyH_take (i := 2) (v := .agg #[.int .i64 k2, .bool n2, .int .i64 m2, .int .i64 e2]) rfl (by kernel_rfl) (by kernel_rfl) (by kernel_rfl) (fun _ _ _ h => h) (Or.inl ⟨by rfl, ?_⟩) hH ?_
   ·intro wq hSw
    try dsimp only at hSw
    go_simp
   try simp only [Act.put, zq1, zq2, zq3, zq4, zq5, zq6]
   refine wpAnyH_take (i := 4) (v := .int .i64 mode) rfl (by kernel_rfl) (by kernel_rfl) (by kernel_rfl) (fun _ _ _ h => h) (Or.inl ⟨by rfl, ?_⟩) hH ?_
   ·intro wq hSw
    try dsimp only at hSw
    go_simp
   try simp only [Act.put, zq1, zq2, zq3, zq4, zq5, zq6]
   refine wpAnyH_ready (rs := [1, 9]) (by kernel_rfl) (by simp) ?_
   refine AllReadyH.cons rfl (fun KK hK => ?_) (AllReadyH.cons rfl (fun KK hK => ?_) AllReadyH.nil)
   ·simp only [zq1, zq2, zq3]
    rw [if_pos (by rfl)]
    refine wps1 6 (.tmp 12) _ rfl in_laws_toFl_t (.agg #[.int .i64 k1, .bool n1, .int .i64 m1, .int .i64 e1]) rfl (toFl_k k1 n1 m1 e1 _) ?_
    rintro e w3 ⟨rfl, k3⟩
    refine ⟨_, rfl, ?_⟩
    replace kw := kw.trans k3
    replace p0 := k3.cell0 p0
    replace p1 := k3.cell0 p1
    replace p2 := k3.cell0 p2
    replace p3 := k3.cell0 p3
    replace t0 := k3.cell0 t0
    replace t1 := k3.cell0 t1
    replace t2 := k3.cell0 t2
    replace t3 := k3.cell0 t3
    replace K := hide ((unhide K).trans k3)
    have z4 := k3.size
    clear k3
    clear hH
    refine hK.out _ _ ?_ (fun hH => ?_)
    ·exact ⟨p0, p1, p2, p3, t0, t1, t2, t3⟩
    clear hK KK
    try simp only [Act.put, zq1, zq2, zq3, zq4, zq5, zq6]
    refine wpAnyH_ready (rs := [3, 9]) (by kernel_rfl) (by simp) ?_
    refine AllReadyH.cons rfl (fun KK hK => ?_) (AllReadyH.cons rfl (fun KK hK => ?_) AllReadyH.nil)
    ·simp only [zq1, zq2, zq3]
     rw [if_pos (by rfl)]
     refine wps1 6 (.tmp 14) _ rfl in_laws_toFl_t (.agg #[.int .i64 k2, .bool n2, .int .i64 m2, .int .i64 e2]) rfl (toFl_k k2 n2 m2 e2 _) ?_
     rintro e w5 ⟨rfl, k5⟩
     refine ⟨_, rfl, ?_⟩
     replace kw := kw.trans k5
     replace p0 := k5.cell0 p0
     replace p1 := k5.cell0 p1
     replace p2 := k5.cell0 p2
     replace p3 := k5.cell0 p3
     replace t0 := k5.cell0 t0
     replace t1 := k5.cell0 t1
     replace t2 := k5.cell0 t2
     replace t3 := k5.cell0 t3
     replace K := hide ((unhide K).trans k5)
     have z6 := k5.size
     clear k5
     clear hH
     refine hK.out _ _ ?_ (fun hH => ?_)
     ·exact ⟨p0, p1, p2, p3, t0, t1, t2, t3⟩
     clear hK KK
     try simp only [Act.put, zq1, zq2, zq3, zq4, zq5, zq6]
     refine wpAnyH_ready (rs := [5, 9]) (by kernel_rfl) (by simp) ?_
     refine AllReadyH.cons rfl (fun KK hK => ?_) (AllReadyH.cons rfl (fun KK hK => ?_) AllReadyH.nil)
     ·simp only [zq1, zq2, zq3]
      rw [if_pos (by rfl)]
      refine wps3 5 (.tmp 13) (.tmp 15) (.tmp 16) _ rfl in_spec_FlDiv_t (.agg #[.int .i64 k1, .bool n1, .int .i64 m1, .int .i64 e1]) (.agg #[.int .i64 k2, .bool n2, .int .i64 m2, .int .i64 e2]) (.int .i64 mode) rfl rfl rfl (unhide ms _) ?_
      rintro e w7 ⟨rfl, k7⟩
      refine ⟨_, rfl, ?_⟩
      replace kw := kw.trans k7
      replace p0 := k7.cell0 p0
      replace p1 := k7.cell0 p1
      replace p2 := k7.cell0 p2
      replace p3 := k7.cell0 p3
      replace t0 := k7.cell0 t0
      replace t1 := k7.cell0 t1
      replace t2 := k7.cell0 t2
      replace t3 := k7.cell0 t3
      replace K := hide ((unhide K).trans k7)
      have z8 := k7.size
      clear k7
      clear hH
      refine hK.out _ _ ?_ (fun hH => ?_)
      ·exact ⟨p0, p1, p2, p3, t0, t1, t2, t3⟩
      clear hK KK
      try simp only [Act.put, zq1, zq2, zq3, zq4, zq5, zq6]
      refine wpAnyH_take (i := 6) (v := .tuple #[.agg #[.int .i64 Q.1.1, .bool Q.1.2.1, .int .i64 Q.1.2.2.1, .int .i64 Q.1.2.2.2], .int .i64 Q.2]) rfl (by kernel_rfl) (by kernel_rfl) (by kernel_rfl) (fun _ _ _ h => h) (Or.inl ⟨by rfl, ?_⟩) hH ?_
      ·intro wq hSw
       try dsimp only at hSw
       go_simp
      try simp only [Act.put, zq1, zq2, zq3, zq4, zq5, zq6]
      refine wpAnyH_take (i := 7) (v := .agg #[.int .i64 Q.1.1, .bool Q.1.2.1, .int .i64 Q.1.2.2.1, .int .i64 Q.1.2.2.2]) rfl (by kernel_rfl) (by kernel_rfl) (by kernel_rfl) (fun _ _ _ h => h) (Or.inl ⟨by rfl, ?_⟩) hH ?_
      ·intro wq hSw
       try dsimp only at hSw
       go_simp
      try simp only [Act.put, zq1, zq2, zq3, zq4, zq5, zq6]
      refine wpAnyH_take (i := 8) (v := .int .i64 Q.2) rfl (by kernel_rfl) (by kernel_rfl) (by kernel_rfl) (fun _ _ _ h => h) (Or.inl ⟨by rfl, ?_⟩) hH ?_
      ·intro wq hSw
       try dsimp only at hSw
       go_simp
      try simp only [Act.put, zq1, zq2, zq3, zq4, zq5, zq6]
      refine wpAnyH_ready (rs := [9]) (by kernel_rfl) (by simp) ?_
      refine AllReadyH.cons rfl (fun KK hK => ?_) AllReadyH.nil
      simp only [zq1, zq2, zq3]
      rw [if_pos (by rfl)]
      go_simp
      have kn := (Kept.refl 0 0 w7).alloc (.cells #[.int .i64 0, .bool false, .int .i64 0, .int .i64 0] 24)
      replace kw := kw.trans kn
      replace p0 := kn.cell0 p0
      replace p1 := kn.cell0 p1
      replace p2 := kn.cell0 p2
      replace p3 := kn.cell0 p3
      replace t0 := kn.cell0 t0
      replace t1 := kn.cell0 t1
      replace t2 := kn.cell0 t2
      replace t3 := kn.cell0 t3
      replace K := hide ((unhide K).trans kn)
      have z10 := kn.size
      clear kn
      have szy : w7.heap.size < (w7.alloc (.cells #[.int .i64 0, .bool false, .int .i64 0, .int .i64 0] 24)).heap.size := by simp
      have y0 : (w7.alloc (.cells #[.int .i64 0, .bool false, .int .i64 0, .int .i64 0] 24)).cell? ⟨w7.heap.size, 0, none⟩ = some (.int .i64 0) := new_cell2 _ _ _ _ _ _ rfl rfl
      have yf0 : (w7.alloc (.cells #[.int .i64 0, .bool false, .int .i64 0, .int .i64 0] 24)).frozen? ⟨w7.heap.size, 0, none⟩ = false := new_loose2 _ _ _ _ _ rfl
      have y1 : (w7.alloc (.cells #[.int .i64 0, .bool false, .int .i64 0, .int .i64 0] 24)).cell? ⟨w7.heap.size, 1, none⟩ = some (.bool false) := new_cell2 _ _ _ _ _ _ rfl rfl
      have yf1 : (w7.alloc (.cells #[.int .i64 0, .bool false, .int .i64 0, .int .i64 0] 24)).frozen? ⟨w7.heap.size, 1, none⟩ = false := new_loose2 _ _ _ _ _ rfl
      have y2 : (w7.alloc (.cells #[.int .i64 0, .bool false, .int .i64 0, .int .i64 0] 24)).cell? ⟨w7.heap.size, 2, none⟩ = some (.int .i64 0) := new_cell2 _ _ _ _ _ _ rfl rfl
      have yf2 : (w7.alloc (.cells #[.int .i64 0, .bool false, .int .i64 0, .int .i64 0] 24)).frozen? ⟨w7.heap.size, 2, none⟩ = false := new_loose2 _ _ _ _ _ rfl
      have y3 : (w7.alloc (.cells #[.int .i64 0, .bool false, .int .i64 0, .int .i64 0] 24)).cell? ⟨w7.heap.size, 3, none⟩ = some (.int .i64 0) := new_cell2 _ _ _ _ _ _ rfl rfl
      have yf3 : (w7.alloc (.cells #[.int .i64 0, .bool false, .int .i64 0, .int .i64 0] 24)).frozen? ⟨w7.heap.size, 3, none⟩ = false := new_loose2 _ _ _ _ _ rfl
      clear hH
      refine hK.out _ _ ?_ (fun hH => ?_)
      ·exact ⟨p0, p1, p2, p3, t0, t1, t2, t3⟩
      clear hK KK
      try simp only [Act.put, zq1, zq2, zq3, zq4, zq5, zq6]
      generalize w7.alloc (.cells #[.int .i64 0, .bool false, .int .i64 0, .int .i64 0] 24) = w9 at *
      refine wpAnyH_ready (rs := [10]) (by kernel_rfl) (by simp) ?_
      refine AllReadyH.cons rfl (fun KK hK => ?_) AllReadyH.nil
      simp only [zq1, zq2, zq3]
      rw [if_pos (by rfl)]
      go_simp
      clear hH
      refine hK.out _ _ ?_ (fun hH => ?_)
      ·exact ⟨(cell_aside _ (by have := unhide S0; dsimp only; omega) (cw3 (by have := unhide S0; dsimp only; omega) p0)), (cell_aside _ (by have := unhide S0; dsimp only; omega) (cw3 (by have := unhide S0; dsimp only; omega) p1)), (cell_aside _ (by have := unhide S0; dsimp only; omega) (cw3 (by have := unhide S0; dsimp only; omega) p2)), (cell_aside _ (by have := unhide S0; dsimp only; omega) (cw3 (by have := unhide S0; dsimp only; omega) p3)), (cell_aside _ (by have := unhide S0; dsimp only; omega) (cw3 (by have := unhide S0; dsimp only; omega) t0)), (cell_aside _ (by have := unhide S0; dsimp only; omega) (cw3 (by have := unhide S0; dsimp only; omega) t1)), (cell_aside _ (by have := unhide S0; dsimp only; omega) (cw3 (by have := unhide S0; dsimp only; omega) t2)), (cell_aside _ (by have := unhide S0; dsimp only; omega) (cw3 (by have := unhide S0; dsimp only; omega) t3))⟩
      clear hK KK
      try simp only [Act.put, zq1, zq2, zq3, zq4, zq5, zq6]
      refine wpAnyH_take (i := 11) (v := .int .i64 Q.2) rfl (by kernel_rfl) (by kernel_rfl) (by kernel_rfl) (fun _ _ _ h => h) (Or.inl ⟨by rfl, ?_⟩) hH ?_
      ·intro wq hSw
       try dsimp only at hSw
       go_simp
      try simp only [Act.put, zq1, zq2, zq3, zq4, zq5, zq6]
      refine wpAnyH_done (by kernel_rfl) ?_ _
      clear hH
      go_wp2_with fail
      go_meet
      exact ⟨_, rfl, rfl, FB.set4 _ _ _ _ y0 y1 y2 y3, ((((kw.setNew (p := ⟨w7.heap.size, 0, none⟩) (by have := unhide S0; dsimp only; omega) (.int .i64 Q.1.1)).setNew (p := ⟨w7.heap.size, 1, none⟩) (by have := unhide S0; dsimp only; omega) (.bool Q.1.2.1)).setNew (p := ⟨w7.heap.size, 2, none⟩) (by have := unhide S0; dsimp only; omega) (.int .i64 Q.1.2.2.1)).setNew (p := ⟨w7.heap.size, 3, none⟩) (by have := unhide S0; dsimp only; omega) (.int .i64 Q.1.2.2.2))⟩
     ·simp only [zq1, zq2, zq3]
      rw [if_pos (by rfl)]
      go_simp
      have kn := (Kept.refl 0 0 w5).alloc (.cells #[.int .i64 0, .bool false, .int .i64 0, .int .i64 0] 24)
      replace kw := kw.trans kn
      replace p0 := kn.cell0 p0
      replace p1 := kn.cell0 p1
      replace p2 := kn.cell0 p2
      replace p3 := kn.cell0 p3
      replace t0 := kn.cell0 t0
      replace t1 := kn.cell0 t1
      replace t2 := kn.cell0 t2
      replace t3 := kn.cell0 t3
      replace K := hide ((unhide K).trans kn)
      have z8 := kn.size
      clear kn
      have szy : w5.heap.size < (w5.alloc (.cells #[.int .i64 0, .bool false, .int .i64 0, .int .i64 0] 24)).heap.size := by simp
      have y0 : (w5.alloc (.cells #[.int .i64 0, .bool false, .int .i64 0, .int .i64 0] 24)).cell? ⟨w5.heap.size, 0, none⟩ = some (.int .i64 0) := new_cell2 _ _ _ _ _ _ rfl rfl
      have yf0 : (w5.alloc (.cells #[.int .i64 0, .bool false, .int .i64 0, .int .i64 0] 24)).frozen? ⟨w5.heap.size, 0, none⟩ = false := new_loose2 _ _ _ _ _ rfl
      have y1 : (w5.alloc (.cells #[.int .i64 0, .bool false, .int .i64 0, .int .i64 0] 24)).cell? ⟨w5.heap.size, 1, none⟩ = some (.bool false) := new_cell2 _ _ _ _ _ _ rfl rfl
      have yf1 : (w5.alloc (.cells #[.int .i64 0, .bool false, .int .i64 0, .int .i64 0] 24)).frozen? ⟨w5.heap.size, 1, none⟩ = false := new_loose2 _ _ _ _ _ rfl
      have y2 : (w5.alloc (.cells #[.int .i64 0, .bool false, .int .i64 0, .int .i64 0] 24)).cell? ⟨w5.heap.size, 2, none⟩ = some (.int .i64 0) := new_cell2 _ _ _ _ _ _ rfl rfl
      have yf2 : (w5.alloc (.cells #[.int .i64 0, .bool false, .int .i64 0, .int .i64 0] 24)).frozen? ⟨w5.heap.size, 2, none⟩ = false := new_loose2 _ _ _ _ _ rfl
      have y3 : (w5.alloc (.cells #[.int .i64 0, .bool false, .int .i64 0, .int .i64 0] 24)).cell? ⟨w5.heap.size, 3, none⟩ = some (.int .i64 0) := new_cell2 _ _ _ _ _ _ rfl rfl
      have yf3 : (w5.alloc (.cells #[.int .i64 0, .bool false, .int .i64 0, .int .i64 0] 24)).frozen? ⟨w5.heap.size, 3, none⟩ = false := new_loose2 _ _ _ _ _ rfl
      clear hH
      refine hK.out _ _ ?_ (fun hH => ?_)
      ·exact ⟨p0, p1, p2, p3, t0, t1, t2, t3⟩
      clear hK KK
      try simp only [Act.put, zq1, zq2, zq3, zq4, zq5, zq6]
      generalize w5.alloc (.cells #[.int .i64 0, .bool false, .int .i64 0, .int .i64 0] 24) = w7 at *
      refine wpAnyH_ready (rs := [5]) (by kernel_rfl) (by simp) ?_
      refine AllReadyH.cons rfl (fun KK hK => ?_) AllReadyH.nil
      simp only [zq1, zq2, zq3]
      rw [if_pos (by rfl)]
      refine wps3 5 (.tmp 13) (.tmp 15) (.tmp 16) _ rfl in_spec_FlDiv_t (.agg #[.int .i64 k1, .bool n1, .int .i64 m1, .int .i64 e1]) (.agg #[.int .i64 k2, .bool n2, .int .i64 m2, .int .i64 e2]) (.int .i64 mode) rfl rfl rfl (unhide ms _) ?_
      rintro e w9 ⟨rfl, k9⟩
      refine ⟨_, rfl, ?_⟩
      replace kw := kw.trans k9
      replace yf0 := k9.loose0 (zbl y0) yf0
      replace yf1 := k9.loose0 (zbl y1) yf1
      replace yf2 := k9.loose0 (zbl y2) yf2
      replace yf3 := k9.loose0 (zbl y3) yf3
      replace p0 := k9.cell0 p0
      replace p1 := k9.cell0 p1
      replace p2 := k9.cell0 p2
      replace p3 := k9.cell0 p3
      replace t0 := k9.cell0 t0
      replace t1 := k9.cell0 t1
      replace t2 := k9.cell0 t2
      replace t3 := k9.cell0 t3
      replace y0 := k9.cell0 y0
      replace y1 := k9.cell0 y1
      replace y2 := k9.cell0 y2
      replace y3 := k9.cell0 y3
      replace K := hide ((unhide K).trans k9)
      have z10 := k9.size
      clear k9
      clear hH
      refine hK.out _ _ ?_ (fun hH => ?_)
      ·exact ⟨p0, p1, p2, p3, t0, t1, t2, t3⟩
      clear hK KK
      try simp only [Act.put, zq1, zq2, zq3, zq4, zq5, zq6]
      refine wpAnyH_take (i := 6) (v := .tuple #[.agg #[.int .i64 Q.1.1, .bool Q.1.2.1, .int .i64 Q.1.2.2.1, .int .i64 Q.1.2.2.2], .int .i64 Q.2]) rfl (by kernel_rfl) (by kernel_rfl) (by kernel_rfl) (fun _ _ _ h => h) (Or.inl ⟨by rfl, ?_⟩) hH ?_
      ·intro wq hSw
       try dsimp only at hSw
       go_simp
      try simp only [Act.put, zq1, zq2, zq3, zq4, zq5, zq6]
      refine wpAnyH_take (i := 7) (v := .agg #[.int .i64 Q.1.1, .bool Q.1.2.1, .int .i64 Q.1.2.2.1, .int .i64 Q.1.2.2.2]) rfl (by kernel_rfl) (by kernel_rfl) (by kernel_rfl) (fun _ _ _ h => h) (Or.inl ⟨by rfl, ?_⟩) hH ?_
      ·intro wq hSw
       try dsimp only at hSw
       go_simp
      try simp only [Act.put, zq1, zq2, zq3, zq4, zq5, zq6]
      refine wpAnyH_take (i := 8) (v := .int .i64 Q.2) rfl (by kernel_rfl) (by kernel_rfl) (by kernel_rfl) (fun _ _ _ h => h) (Or.inl ⟨by rfl, ?_⟩) hH ?_
      ·intro wq hSw
       try dsimp only at hSw
       go_simp
      try simp only [Act.put, zq1, zq2, zq3, zq4, zq5, zq6]
      refine wpAnyH_ready (rs := [10]) (by kernel_rfl) (by simp) ?_
      refine AllReadyH.cons rfl (fun KK hK => ?_) AllReadyH.nil
      simp only [zq1, zq2, zq3]
      rw [if_pos (by rfl)]
      go_simp
      clear hH
      refine hK.out _ _ ?_ (fun hH => ?_)
      ·exact ⟨(cell_aside _ (by have := unhide S0; dsimp only; omega) (cw3 (by have := unhide S0; dsimp only; omega) p0)), (cell_aside _ (by have := unhide S0; dsimp only; omega) (cw3 (by have := unhide S0; dsimp only; omega) p1)), (cell_aside _ (by have := unhide S0; dsimp only; omega) (cw3 (by have := unhide S0; dsimp only; omega) p2)), (cell_aside _ (by have := unhide S0; dsimp only; omega) (cw3 (by have := unhide S0; dsimp only; omega) p3)), (cell_aside _ (by have := unhide S0; dsimp only; omega) (cw3 (by have := unhide S0; dsimp only; omega) t0)), (cell_aside _ (by have := unhide S0; dsimp only; omega) (cw3 (by have := unhide S0; dsimp only; omega) t1)), (cell_aside _ (by have := unhide S0; dsimp only; omega) (cw3 (by have := unhide S0; dsimp only; omega) t2)), (cell_aside _ (by have := unhide S0; dsimp only; omega) (cw3 (by have := unhide S0; dsimp only; omega) t3))⟩
      clear hK KK
      try simp only [Act.put, zq1, zq2, zq3, zq4, zq5, zq6]
      refine wpAnyH_take (i := 11) (v := .int .i64 Q.2) rfl (by kernel_rfl) (by kernel_rfl) (by kernel_rfl) (fun _ _ _ h => h) (Or.inl ⟨by rfl, ?_⟩) hH ?_
      ·intro wq hSw
       try dsimp only at hSw
       go_simp
      try simp only [Act.put, zq1, zq2, zq3, zq4, zq5, zq6]
      refine wpAnyH_done (by kernel_rfl) ?_ _
      clear hH
      go_wp2_with fail
      go_meet
      exact ⟨_, rfl, rfl, FB.set4 _ _ _ _ y0 y1 y2 y3, ((((kw.setNew (p := ⟨w5.heap.size, 0, none⟩) (by have := unhide S0; dsimp only; omega) (.int .i64 Q.1.1)).setNew (p := ⟨w5.heap.size, 1, none⟩) (by have := unhide S0; dsimp only; omega) (.bool Q.1.2.1)).setNew (p := ⟨w5.heap.size, 2, none⟩) (by have := unhide S0; dsimp only; omega) (.int .i64 Q.1.2.2.1)).setNew (p := ⟨w5.heap.size, 3, none⟩) (by have := unhide S0; dsimp only; omega) (.int .i64 Q.1.2.2.2))⟩
    ·simp only [zq1, zq2, zq3]
     rw [if_pos (by rfl)]
     go_simp
     have kn := (Kept.refl 0 0 w3).alloc (.cells #[.int .i64 0, .bool false, .int .i64 0, .int .i64 0] 24)
     replace kw := kw.trans kn
     replace p0 := kn.cell0 p0
     replace p1 := kn.cell0 p1
     replace p2 := kn.cell0 p2
     replace p3 := kn.cell0 p3
     replace t0 := kn.cell0 t0
     replace t1 := kn.cell0 t1
     replace t2 := kn.cell0 t2
     replace t3 := kn.cell0 t3
     replace K := hide ((unhide K).trans kn)
     have z6 := kn.size
     clear kn
     have szy : w3.heap.size < (w3.alloc (.cells #[.int .i64 0, .bool false, .int .i64 0, .int .i64 0] 24)).heap.size := by simp
     have y0 : (w3.alloc (.cells #[.int .i64 0, .bool false, .int .i64 0, .int .i64 0] 24)).cell? ⟨w3.heap.size, 0, none⟩ = some (.int .i64 0) := new_cell2 _ _ _ _ _ _ rfl rfl
     have yf0 : (w3.alloc (.cells #[.int .i64 0, .bool false, .int .i64 0, .int .i64 0] 24)).frozen? ⟨w3.heap.size, 0, none⟩ = false := new_loose2 _ _ _ _ _ rfl
     have y1 : (w3.alloc (.cells #[.int .i64 0, .bool false, .int .i64 0, .int .i64 0] 24)).cell? ⟨w3.heap.size, 1, none⟩ = some (.bool false) := new_cell2 _ _ _ _ _ _ rfl rfl
     have yf1 : (w3.alloc (.cells #[.int .i64 0, .bool false, .int .i64 0, .int .i64 0] 24)).frozen? ⟨w3.heap.size, 1, none⟩ = false := new_loose2 _ _ _ _ _ rfl
     have y2 : (w3.alloc (.cells #[.int .i64 0, .bool false, .int .i64 0, .int .i64 0] 24)).cell? ⟨w3.heap.size, 2, none⟩ = some (.int .i64 0) := new_cell2 _ _ _ _ _ _ rfl rfl
     have yf2 : (w3.alloc (.cells #[.int .i64 0, .bool false, .int .i64 0, .int .i64 0] 24)).frozen? ⟨w3.heap.size, 2, none⟩ = false := new_loose2 _ _ _ _ _ rfl
     have y3 : (w3.alloc (.cells #[.int .i64 0, .bool false, .int .i64 0, .int .i64 0] 24)).cell? ⟨w3.heap.size, 3, none⟩ = some (.int .i64 0) := new_cell2 _ _ _ _ _ _ rfl rfl
     have yf3 : (w3.alloc (.cells #[.int .i64 0, .bool false, .int .i64 0, .int .i64 0] 24)).frozen? ⟨w3.heap.size, 3, none⟩ = false := new_loose2 _ _ _ _ _ rfl
     clear hH
     refine hK.out _ _ ?_ (fun hH => ?_)
     ·exact ⟨p0, p1, p2, p3, t0, t1, t2, t3⟩
     clear hK KK
     try simp only [Act.put, zq1, zq2, zq3, zq4, zq5, zq6]
     generalize w3.alloc (.cells #[.int .i64 0, .bool false, .int .i64 0, .int .i64 0] 24) = w5 at *
     refine wpAnyH_ready (rs := [3]) (by kernel_rfl) (by simp) ?_
     refine AllReadyH.cons rfl (fun KK hK => ?_) AllReadyH.nil
     simp only [zq1, zq2, zq3]
     rw [if_pos (by rfl)]
     refine wps1 6 (.tmp 14) _ rfl in_laws_toFl_t (.agg #[.int .i64 k2, .bool n2, .int .i64 m2, .int .i64 e2]) rfl (toFl_k k2 n2 m2 e2 _) ?_
     rintro e w7 ⟨rfl, k7⟩
     refine ⟨_, rfl, ?_⟩
     replace kw := kw.trans k7
     replace yf0 := k7.loose0 (zbl y0) yf0
     replace yf1 := k7.loose0 (zbl y1) yf1
     replace yf2 := k7.loose0 (zbl y2) yf2
     replace yf3 := k7.loose0 (zbl y3) yf3
     replace p0 := k7.cell0 p0
     replace p1 := k7.cell0 p1
     replace p2 := k7.cell0 p2
     replace p3 := k7.cell0 p3
     replace t0 := k7.cell0 t0
     replace t1 := k7.cell0 t1
     replace t2 := k7.cell0 t2
     replace t3 := k7.cell0 t3
     replace y0 := k7.cell0 y0
     replace y1 := k7.cell0 y1
     replace y2 := k7.cell0 y2
     replace y3 := k7.cell0 y3
     replace K := hide ((unhide K).trans k7)
     have z8 := k7.size
     clear k7
     clear hH
     refine hK.out _ _ ?_ (fun hH => ?_)
     ·exact ⟨p0, p1, p2, p3, t0, t1, t2, t3⟩
     clear hK KK
     try simp only [Act.put, zq1, zq2, zq3, zq4, zq5, zq6]
     refine wpAnyH_ready (rs := [5]) (by kernel_rfl) (by simp) ?_
     refine AllReadyH.cons rfl (fun KK hK => ?_) AllReadyH.nil
     simp only [zq1, zq2, zq3]
     rw [if_pos (by rfl)]
     refine wps3 5 (.tmp 13) (.tmp 15) (.tmp 16) _ rfl in_spec_FlDiv_t (.agg #[.int .i64 k1, .bool n1, .int .i64 m1, .int .i64 e1]) (.agg #[.int .i64 k2, .bool n2, .int .i64 m2, .int .i64 e2]) (.int .i64 mode) rfl rfl rfl (unhide ms _) ?_
     rintro e w9 ⟨rfl, k9⟩
     refine ⟨_, rfl, ?_⟩
     replace kw := kw.trans k9
     replace yf0 := k9.loose0 (zbl y0) yf0
     replace yf1 := k9.loose0 (zbl y1) yf1
     replace yf2 := k9.loose0 (zbl y2) yf2
     replace yf3 := k9.loose0 (zbl y3) yf3
     replace p0 := k9.cell0 p0
     replace p1 := k9.cell0 p1
     replace p2 := k9.cell0 p2
     replace p3 := k9.cell0 p3
     replace t0 := k9.cell0 t0
     replace t1 := k9.cell0 t1
     replace t2 := k9.cell0 t2
     replace t3 := k9.cell0 t3
     replace y0 := k9.cell0 y0
     replace y1 := k9.cell0 y1
     replace y2 := k9.cell0 y2
     replace y3 := k9.cell0 y3
     replace K := hide ((unhide K).trans k9)
     have z10 := k9.size
     clear k9
     clear hH
     refine hK.out _ _ ?_ (fun hH => ?_)
     ·exact ⟨p0, p1, p2, p3, t0, t1, t2, t3⟩
     clear hK KK
     try simp only [Act.put, zq1, zq2, zq3, zq4, zq5, zq6]
     refine wpAnyH_take (i := 6) (v := .tuple #[.agg #[.int .i64 Q.1.1, .bool Q.1.2.1, .int .i64 Q.1.2.2.1, .int .i64 Q.1.2.2.2], .int .i64 Q.2]) rfl (by kernel_rfl) (by kernel_rfl) (by kernel_rfl) (fun _ _ _ h => h) (Or.inl ⟨by rfl, ?_⟩) hH ?_
     ·intro wq hSw
      try dsimp only at hSw
      go_simp
     try simp only [Act.put, zq1, zq2, zq3, zq4, zq5, zq6]
     refine wpAnyH_take (i := 7) (v := .agg #[.int .i64 Q.1.1, .bool Q.1.2.1, .int .i64 Q.1.2.2.1, .int .i64 Q.1.2.2.2]) rfl (by kernel_rfl) (by kernel_rfl) (by kernel_rfl) (fun _ _ _ h => h) (Or.inl ⟨by rfl, ?_⟩) hH ?_
     ·intro wq hSw
      try dsimp only at hSw
      go_simp
     try simp only [Act.put, zq1, zq2, zq3, zq4, zq5, zq6]
     refine wpAnyH_take (i := 8) (v := .int .i64 Q.2) rfl (by kernel_rfl) (by kernel_rfl) (by kernel_rfl) (fun _ _ _ h => h) (Or.inl ⟨by rfl, ?_⟩) hH ?_
     ·intro wq hSw
      try dsimp only at hSw
      go_simp
     try simp only [Act.put, zq1, zq2, zq3, zq4, zq5, zq6]
     refine wpAnyH_ready (rs := [10]) (by kernel_rfl) (by simp) ?_
     refine AllReadyH.cons rfl (fun KK hK => ?_) AllReadyH.nil
     simp only [zq1, zq2, zq3]
     rw [if_pos (by rfl)]
     go_simp
     clear hH
     refine hK.out _ _ ?_ (fun hH => ?_)
     ·exact ⟨(cell_aside _ (by have := unhide S0; dsimp only; omega) (cw3 (by have := unhide S0; dsimp only; omega) p0)), (cell_aside _ (by have := unhide S0; dsimp only; omega) (cw3 (by have := unhide S0; dsimp only; omega) p1)), (cell_aside _ (by have := unhide S0; dsimp only; omega) (cw3 (by have := unhide S0; dsimp only; omega) p2)), (cell_aside _ (by have := unhide S0; dsimp only; omega) (cw3 (by have := unhide S0; dsimp only; omega) p3)), (cell_aside _ (by have := unhide S0; dsimp only; omega) (cw3 (by have := unhide S0; dsimp only; omega) t0)), (cell_aside _ (by have := unhide S0; dsimp only; omega) (cw3 (by have := unhide S0; dsimp only; omega) t1)), (cell_aside _ (by have := unhide S0; dsimp only; omega) (cw3 (by have := unhide S0; dsimp only; omega) t2)), (cell_aside _ (by have := unhide S0; dsimp only; omega) (cw3 (by have := unhide S0; dsimp only; omega) t3))⟩
     clear hK KK
     try simp only [Act.put, zq1, zq2, zq3, zq4, zq5, zq6]
     refine wpAnyH_take (i := 11) (v := .int .i64 Q.2) rfl (by kernel_rfl) (by kernel_rfl) (by kernel_rfl) (fun _ _ _ h => h) (Or.inl ⟨by rfl, ?_⟩) hH ?_
     ·intro wq hSw
      try dsimp only at hSw
      go_simp
     try simp only [Act.put, zq1, zq2, zq3, zq4, zq5, zq6]
     refine wpAnyH_done (by kernel_rfl) ?_ _
     clear hH
     go_wp2_with fail
     go_meet
     exact ⟨_, rfl, rfl, FB.set4 _ _ _ _ y0 y1 y2 y3, ((((kw.setNew (p := ⟨w3.heap.size, 0, none⟩) (by have := unhide S0; dsimp only; omega) (.int .i64 Q.1.1)).setNew (p := ⟨w3.heap.size, 1, none⟩) (by have := unhide S0; dsimp only; omega) (.bool Q.1.2.1)).setNew (p := ⟨w3.heap.size, 2, none⟩) (by have := unhide S0; dsimp only; omega) (.int .i64 Q.1.2.2.1)).setNew (p := ⟨w3.heap.size, 3, none⟩) (by have := unhide S0; dsimp only; omega) (.int .i64 Q.1.2.2.2))⟩
   ·simp only [zq1, zq2, zq3]
    rw [if_pos (by rfl)]
    go_simp
    have kn := (Kept.refl 0 0 wd2).alloc (.cells #[.int .i64 0, .bool false, .int .i64 0, .int .i64 0] 24)
    replace kw := kw.trans kn
    replace p0 := kn.cell0 p0
    replace p1 := kn.cell0 p1
    replace p2 := kn.cell0 p2
    replace p3 := kn.cell0 p3
    replace t0 := kn.cell0 t0
    replace t1 := kn.cell0 t1
    replace t2 := kn.cell0 t2
    replace t3 := kn.cell0 t3
    replace K := hide ((unhide K).trans kn)
    have z4 := kn.size
    clear kn
    have szy : wd2.heap.size < (wd2.alloc (.cells #[.int .i64 0, .bool false, .int .i64 0, .int .i64 0] 24)).heap.size := by simp
    have y0 : (wd2.alloc (.cells #[.int .i64 0, .bool false, .int .i64 0, .int .i64 0] 24)).cell? ⟨wd2.heap.size, 0, none⟩ = some (.int .i64 0) := new_cell2 _ _ _ _ _ _ rfl rfl
    have yf0 : (wd2.alloc (.cells #[.int .i64 0, .bool false, .int .i64 0, .int .i64 0] 24)).frozen? ⟨wd2.heap.size, 0, none⟩ = false := new_loose2 _ _ _ _ _ rfl
    have y1 : (wd2.alloc (.cells #[.int .i64 0, .bool false, .int .i64 0, .int .i64 0] 24)).cell? ⟨wd2.heap.size, 1, none⟩ = some (.bool false) := new_cell2 _ _ _ _ _ _ rfl rfl
    have yf1 : (wd2.alloc (.cells #[.int .i64 0, .bool false, .int .i64 0, .int .i64 0] 24)).frozen? ⟨wd2.heap.size, 1, none⟩ = false := new_loose2 _ _ _ _ _ rfl
    have y2 : (wd2.alloc (.cells #[.int .i64 0, .bool false, .int .i64 0, .int .i64 0] 24)).cell? ⟨wd2.heap.size, 2, none⟩ = some (.int .i64 0) := new_cell2 _ _ _ _ _ _ rfl rfl
    have yf2 : (wd2.alloc (.cells #[.int .i64 0, .bool false, .int .i64 0, .int .i64 0] 24)).frozen? ⟨wd2.heap.size, 2, none⟩ = false := new_loose2 _ _ _ _ _ rfl
    have y3 : (wd2.alloc (.cells #[.int .i64 0, .bool false, .int .i64 0, .int .i64 0] 24)).cell? ⟨wd2.heap.size, 3, none⟩ = some (.int .i64 0) := new_cell2 _ _ _ _ _ _ rfl rfl
    have yf3 : (wd2.alloc (.cells #[.int .i64 0, .bool false, .int .i64 0, .int .i64 0] 24)).frozen? ⟨wd2.heap.size, 3, none⟩ = false := new_loose2 _ _ _ _ _ rfl
    clear hH
    refine hK.out _ _ ?_ (fun hH => ?_)
    ·exact ⟨p0, p1, p2, p3, t0, t1, t2, t3⟩
    clear hK KK
    try simp only [Act.put, zq1, zq2, zq3, zq4, zq5, zq6]
    generalize wd2.alloc (.cells #[.int .i64 0, .bool false, .int .i64 0, .int .i64 0] 24) = w3 at *
    refine wpAnyH_ready (rs := [1]) (by kernel_rfl) (by simp) ?_
    refine AllReadyH.cons rfl (fun KK hK => ?_) AllReadyH.nil
    simp only [zq1, zq2, zq3]
    rw [if_pos (by rfl)]
    refine wps1 6 (.tmp 12) _ rfl in_laws_toFl_t (.agg #[.int .i64 k1, .bool n1, .int .i64 m1, .int .i64 e1]) rfl (toFl_k k1 n1 m1 e1 _) ?_
    rintro e w5 ⟨rfl, k5⟩
    refine ⟨_, rfl, ?_⟩
    replace kw := kw.trans k5
    replace yf0 := k5.loose0 (zbl y0) yf0
    replace yf1 := k5.loose0 (zbl y1) yf1
    replace yf2 := k5.loose0 (zbl y2) yf2
    replace yf3 := k5.loose0 (zbl y3) yf3
    replace p0 := k5.cell0 p0
    replace p1 := k5.cell0 p1
    replace p2 := k5.cell0 p2
    replace p3 := k5.cell0 p3
    replace t0 := k5.cell0 t0
    replace t1 := k5.cell0 t1
    replace t2 := k5.cell0 t2
    replace t3 := k5.cell0 t3
    replace y0 := k5.cell0 y0
    replace y1 := k5.cell0 y1
    replace y2 := k5.cell0 y2
    replace y3 := k5.cell0 y3
    replace K := hide ((unhide K).trans k5)
    have z6 := k5.size
    clear k5
    clear hH
    refine hK.out _ _ ?_ (fun hH => ?_)
    ·exact ⟨p0, p1, p2, p3, t0, t1, t2, t3⟩
    clear hK KK
    try simp only [Act.put, zq1, zq2, zq3, zq4, zq5, zq6]
    refine wpAnyH_ready (rs := [3]) (by kernel_rfl) (by simp) ?_
    refine AllReadyH.cons rfl (fun KK hK => ?_) AllReadyH.nil
    simp only [zq1, zq2, zq3]
    rw [if_pos (by rfl)]
    refine wps1 6 (.tmp 14) _ rfl in_laws_toFl_t (.agg #[.int .i64 k2, .bool n2, .int .i64 m2, .int .i64 e2]) rfl (toFl_k k2 n2 m2 e2 _) ?_
    rintro e w7 ⟨rfl, k7⟩
    refine ⟨_, rfl, ?_⟩
    replace kw := kw.trans k7
    replace yf0 := k7.loose0 (zbl y0) yf0
    replace yf1 := k7.loose0 (zbl y1) yf1
    replace yf2 := k7.loose0 (zbl y2) yf2
    replace yf3 := k7.loose0 (zbl y3) yf3
    replace p0 := k7.cell0 p0
    replace p1 := k7.cell0 p1
    replace p2 := k7.cell0 p2
    replace p3 := k7.cell0 p3
    replace t0 := k7.cell0 t0
    replace t1 := k7.cell0 t1
    replace t2 := k7.cell0 t2
    replace t3 := k7.cell0 t3
    replace y0 := k7.cell0 y0
    replace y1 := k7.cell0 y1
    replace y2 := k7.cell0 y2
    replace y3 := k7.cell0 y3
    replace K := hide ((unhide K).trans k7)
    have z8 := k7.size
    clear k7
    clear hH
    refine hK.out _ _ ?_ (fun hH => ?_)
    ·exact ⟨p0, p1, p2, p3, t0, t1, t2, t3⟩
    clear hK KK
    try simp only [Act.put, zq1, zq2, zq3, zq4, zq5, zq6]
    refine wpAnyH_ready (rs := [5]) (by kernel_rfl) (by simp) ?_
    refine AllReadyH.cons rfl (fun KK hK => ?_) AllReadyH.nil
    simp only [zq1, zq2, zq3]
    rw [if_pos (by rfl)]
    refine wps3 5 (.tmp 13) (.tmp 15) (.tmp 16) _ rfl in_spec_FlDiv_t (.agg #[.int .i64 k1, .bool n1, .int .i64 m1, .int .i64 e1]) (.agg #[.int .i64 k2, .bool n2, .int .i64 m2, .int .i64 e2]) (.int .i64 mode) rfl rfl rfl (unhide ms _) ?_
    rintro e w9 ⟨rfl, k9⟩
    refine ⟨_, rfl, ?_⟩
    replace kw := kw.trans k9
    replace yf0 := k9.loose0 (zbl y0) yf0
    replace yf1 := k9.loose0 (zbl y1) yf1
    replace yf2 := k9.loose0 (zbl y2) yf2
    replace yf3 := k9.loose0 (zbl y3) yf3
    replace p0 := k9.cell0 p0
    replace p1 := k9.cell0 p1
    replace p2 := k9.cell0 p2
    replace p3 := k9.cell0 p3
    replace t0 := k9.cell0 t0
    replace t1 := k9.cell0 t1
    replace t2 := k9.cell0 t2
    replace t3 := k9.cell0 t3
    replace y0 := k9.cell0 y0
    replace y1 := k9.cell0 y1
    replace y2 := k9.cell0 y2
    replace y3 := k9.cell0 y3
    replace K := hide ((unhide K).trans k9)
    have z10 := k9.size
    clear k9
    clear hH
    refine hK.out _ _ ?_ (fun hH => ?_)
    ·exact ⟨p0, p1, p2, p3, t0, t1, t2, t3⟩
    clear hK KK
    try simp only [Act.put, zq1, zq2, zq3, zq4, zq5, zq6]
    refine wpAnyH_take (i := 6) (v := .tuple #[.agg #[.int .i64 Q.1.1, .bool Q.1.2.1, .int .i64 Q.1.2.2.1, .int .i64 Q.1.2.2.2], .int .i64 Q.2]) rfl (by kernel_rfl) (by kernel_rfl) (by kernel_rfl) (fun _ _ _ h => h) (Or.inl ⟨by rfl, ?_⟩) hH ?_
    ·intro wq hSw
     try dsimp only at hSw
     go_simp
    try simp only [Act.put, zq1, zq2, zq3, zq4, zq5, zq6]
    refine wpAnyH_take (i := 7) (v := .agg #[.int .i64 Q.1.1, .bool Q.1.2.1, .int .i64 Q.1.2.2.1, .int .i64 Q.1.2.2.2]) rfl (by kernel_rfl) (by kernel_rfl) (by kernel_rfl) (fun _ _ _ h => h) (Or.inl ⟨by rfl, ?_⟩) hH ?_
    ·intro wq hSw
     try dsimp only at hSw
     go_simp
    try simp only [Act.put, zq1, zq2, zq3, zq4, zq5, zq6]
    refine wpAnyH_take (i := 8) (v := .int .i64 Q.2) rfl (by kernel_rfl) (by kernel_rfl) (by kernel_rfl) (fun _ _ _ h => h) (Or.inl ⟨by rfl, ?_⟩) hH ?_
    ·intro wq hSw
     try dsimp only at hSw
     go_simp
    try simp only [Act.put, zq1, zq2, zq3, zq4, zq5, zq6]
    refine wpAnyH_ready (rs := [10]) (by kernel_rfl) (by simp) ?_
    refine AllReadyH.cons rfl (fun KK hK => ?_) AllReadyH.nil
    simp only [zq1, zq2, zq3]
    rw [if_pos (by rfl)]
    go_simp
    clear hH
    refine hK.out _ _ ?_ (fun hH => ?_)
    ·exact ⟨(cell_aside _ (by have := unhide S0; dsimp only; omega) (cw3 (by have := unhide S0; dsimp only; omega) p0)), (cell_aside _ (by have := unhide S0; dsimp only; omega) (cw3 (by have := unhide S0; dsimp only; omega) p1)), (cell_aside _ (by have := unhide S0; dsimp only; omega) (cw3 (by have := unhide S0; dsimp only; omega) p2)), (cell_aside _ (by have := unhide S0; dsimp only; omega) (cw3 (by have := unhide S0; dsimp only; omega) p3)), (cell_aside _ (by have := unhide S0; dsimp only; omega) (cw3 (by have := unhide S0; dsimp only; omega) t0)), (cell_aside _ (by have := unhide S0; dsimp only; omega) (cw3 (by have := unhide S0; dsimp only; omega) t1)), (cell_aside _ (by have := unhide S0; dsimp only; omega) (cw3 (by have := unhide S0; dsimp only; omega) t2)), (cell_aside _ (by have := unhide S0; dsimp only; omega) (cw3 (by have := unhide S0; dsimp only; omega) t3))⟩
    clear hK KK
    try simp only [Act.put, zq1, zq2, zq3, zq4, zq5, zq6]
    refine wpAnyH_take (i := 11) (v := .int .i64 Q.2) rfl (by kernel_rfl) (by kernel_rfl) (by kernel_rfl) (fun _ _ _ h => h) (Or.inl ⟨by rfl, ?_⟩) hH ?_
    ·intro wq hSw
     try dsimp only at hSw
     go_simp
    try simp only [Act.put, zq1, zq2, zq3, zq4, zq5, zq6]
    refine wpAnyH_done (by kernel_rfl) ?_ _
    clear hH
    go_wp2_with fail
    go_meet
    exact ⟨_, rfl, rfl, FB.set4 _ _ _ _ y0 y1 y2 y3, ((((kw.setNew (p := ⟨wd2.heap.size, 0, none⟩) (by have := unhide S0; dsimp only; omega) (.int .i64 Q.1.1)).setNew (p := ⟨wd2.heap.size, 1, none⟩) (by have := unhide S0; dsimp only; omega) (.bool Q.1.2.1)).setNew (p := ⟨wd2.heap.size, 2, none⟩) (by have := unhide S0; dsimp only; omega) (.int .i64 Q.1.2.2.1)).setNew (p := ⟨wd2.heap.size, 3, none⟩) (by have := unhide S0; dsimp only; omega) (.int .i64 Q.1.2.2.2))⟩
  case rest =>
   obtain ⟨Xw, rfl, rfl, Fw, kx⟩ := hcut
   replace p0 := kx.cell0 p0
   replace p1 := kx.cell0 p1
   replace p2 := kx.cell0 p2
   replace p3 := kx.cell0 p3
   replace t0 := kx.cell0 t0
   replace t1 := kx.cell0 t1
   replace t2 := kx.cell0 t2
   replace t3 := kx.cell0 t3
   replace K := hide ((unhide K).trans kx)
   have z1 := kx.size
   clear kx
   skip
   generalize hwc : wc = wa at *
   clear hwc
   go_upto_region 2 with fail
   go_cut [9, 10] (fun p g wx => ∃ X, p = .pointer (some ⟨X, 0, none⟩) ∧ g = .int .i64 Q.2 ∧ FB wx X Q.1.1 Q.1.2.1 Q.1.2.2.1 Q.1.2.2.2 ∧ Kept 0 0 wa wx)
   case first =>
    have kw := Kept.refl 0 0 wa
    have kd := (Kept.refl 0 0 wa).drew
    replace kw := kw.trans kd
    replace p0 := kd.cell0 p0
    replace p1 := kd.cell0 p1
    replace p2 := kd.cell0 p2
    replace p3 := kd.cell0 p3
    replace t0 := kd.cell0 t0
    replace t1 := kd.cell0 t1
    replace t2 := kd.cell0 t2
    replace t3 := kd.cell0 t3
    replace K := hide ((unhide K).trans kd)
    have z2 := kd.size
    clear kd
    refine wp_region_held_drew (S := (fun w' => w'.cell? ⟨w.heap.size, 0, none⟩ = some (.int .i64 k1) ∧ w'.cell? ⟨w.heap.size, 1, none⟩ = some (.bool n1) ∧ w'.cell? ⟨w.heap.size, 2, none⟩ = some (.int .i64 m1) ∧ w'.cell? ⟨w.heap.size, 3, none⟩ = some (.int .i64 e1) ∧ w'.cell? ⟨w.heap.size + 1, 0, none⟩ = some (.int .i64 k2) ∧ w'.cell? ⟨w.heap.size + 1, 1, none⟩ = some (.bool n2) ∧ w'.cell? ⟨w.heap.size + 1, 2, none⟩ = some (.int .i64 m2) ∧ w'.cell? ⟨w.heap.size + 1, 3, none⟩ = some (.int .i64 e2))) (by kernel_rfl) ?_ (fun hH => ?_)
    ·exact ⟨p0, p1, p2, p3, t0, t1, t2, t3⟩
    generalize wa.drew = wd3 at *
    refine wpAnyH_take (i := 0) (v := .agg #[.int .i64 k1, .bool n1, .int .i64 m1, .int .i64 e1]) rfl (by kernel_rfl) (by kernel_rfl) (by kernel_rfl) (fun _ _ _ h => h) (Or.inl ⟨by rfl, ?_⟩) hH ?_
    ·intro wq hSw
     try dsimp only at hSw
     go_simp
    try simp only [Act.put, zq1, zq2, zq3, zq4, zq5, zq6]
    refine wpAnyH_take (i := 2) (v := .agg #[.int .i64 k2, .bool n2, .int .i64 m2, .int .i64 e2]) rfl (by kernel_rfl) (by kernel_rfl) (by kernel_rfl) (fun _ _ _ h => h) (Or.inl ⟨by rfl, ?_⟩) hH ?_
    ·intro wq hSw
     try dsimp only at hSw
     go_simp
    try simp only [Act.put, zq1, zq2, zq3, zq4, zq5, zq6]
    refine wpAnyH_take (i := 4) (v := .int .i64 mode) rfl (by kernel_rfl) (by kernel_rfl) (by kernel_rfl) (fun _ _ _ h => h) (Or.inl ⟨by rfl, ?_⟩) hH ?_
    ·intro wq hSw
     try dsimp only at hSw
     go_simp
    try simp only [Act.put, zq1, zq2, zq3, zq4, zq5, zq6]
    refine wpAnyH_ready (rs := [1, 9]) (by kernel_rfl) (by simp) ?_
    refine AllReadyH.cons rfl (fun KK hK => ?_) (AllReadyH.cons rfl (fun KK hK => ?_) AllReadyH.nil)
    ·simp only [zq1, zq2, zq3]
     rw [if_pos (by rfl)]
     refine wps1 6 (.tmp 21) _ rfl in_laws_toFl_t (.agg #[.int .i64 k1, .bool n1, .int .i64 m1, .int .i64 e1]) rfl (toFl_k k1 n1 m1 e1 _) ?_
     rintro e w4 ⟨rfl, k4⟩
     refine ⟨_, rfl, ?_⟩
     replace kw := kw.trans k4
     replace p0 := k4.cell0 p0
     replace p1 := k4.cell0 p1
     replace p2 := k4.cell0 p2
     replace p3 := k4.cell0 p3
     replace t0 := k4.cell0 t0
     replace t1 := k4.cell0 t1
     replace t2 := k4.cell0 t2
     replace t3 := k4.cell0 t3
     replace K := hide ((unhide K).trans k4)
     have z5 := k4.size
     clear k4
     clear hH
     refine hK.out _ _ ?_ (fun hH => ?_)
     ·exact ⟨p0, p1, p2, p3, t0, t1, t2, t3⟩
     clear hK KK
     try simp only [Act.put, zq1, zq2, zq3, zq4, zq5, zq6]
     refine wpAnyH_ready (rs := [3, 9]) (by kernel_rfl) (by simp) ?_
     refine AllReadyH.cons rfl (fun KK hK => ?_) (AllReadyH.cons rfl (fun KK hK => ?_) AllReadyH.nil)
     ·simp only [zq1, zq2, zq3]
      rw [if_pos (by rfl)]
      refine wps1 6 (.tmp 23) _ rfl in_laws_toFl_t (.agg #[.int .i64 k2, .bool n2, .int .i64 m2, .int .i64 e2]) rfl (toFl_k k2 n2 m2 e2 _) ?_
      rintro e w6 ⟨rfl, k6⟩
      refine ⟨_, rfl, ?_⟩
      replace kw := kw.trans k6
      replace p0 := k6.cell0 p0
      replace p1 := k6.cell0 p1
      replace p2 := k6.cell0 p2
      replace p3 := k6.cell0 p3
      replace t0 := k6.cell0 t0
      replace t1 := k6.cell0 t1
      replace t2 := k6.cell0 t2
      replace t3 := k6.cell0 t3
      replace K := hide ((unhide K).trans k6)
      have z7 := k6.size
      clear k6
      clear hH
      refine hK.out _ _ ?_ (fun hH => ?_)
      ·exact ⟨p0, p1, p2, p3, t0, t1, t2, t3⟩
      clear hK KK
      try simp only [Act.put, zq1, zq2, zq3, zq4, zq5, zq6]
      refine wpAnyH_ready (rs := [5, 9]) (by kernel_rfl) (by simp) ?_
      refine AllReadyH.cons rfl (fun KK hK => ?_) (AllReadyH.cons rfl (fun KK hK => ?_) AllReadyH.nil)
      ·simp only [zq1, zq2, zq3]
       rw [if_pos (by rfl)]
       refine wps3 7 (.tmp 22) (.tmp 24) (.tmp 25) _ rfl in_impl_FlDiv_t (.agg #[.int .i64 k1, .bool n1, .int .i64 m1, .int .i64 e1]) (.agg #[.int .i64 k2, .bool n2, .int .i64 m2, .int .i64 e2]) (.int .i64 mode) rfl rfl rfl (unhide mi _ (T.kept (unhide K))) ?_
       rintro e w8 ⟨rfl, k8⟩
       refine ⟨_, rfl, ?_⟩
       replace kw := kw.trans k8
       replace p0 := k8.cell0 p0
       replace p1 := k8.cell0 p1
       replace p2 := k8.cell0 p2
       replace p3 := k8.cell0 p3
       replace t0 := k8.cell0 t0
       replace t1 := k8.cell0 t1
       replace t2 := k8.cell0 t2
       replace t3 := k8.cell0 t3
       replace K := hide ((unhide K).trans k8)
       have z9 := k8.size
       clear k8
       clear hH
       refine hK.out _ _ ?_ (fun hH => ?_)
       ·exact ⟨p0, p1, p2, p3, t0, t1, t2, t3⟩
       clear hK KK
       try simp only [Act.put, zq1, zq2, zq3, zq4, zq5, zq6]
       refine wpAnyH_take (i := 6) (v := .tuple #[.agg #[.int .i64 Q.1.1, .bool Q.1.2.1, .int .i64 Q.1.2.2.1, .int .i64 Q.1.2.2.2], .int .i64 Q.2]) rfl (by kernel_rfl) (by kernel_rfl) (by kernel_rfl) (fun _ _ _ h => h) (Or.inl ⟨by rfl, ?_⟩) hH ?_
       ·intro wq hSw
        try dsimp only at hSw
        go_simp
       try simp only [Act.put, zq1, zq2, zq3, zq4, zq5, zq6]
       refine wpAnyH_take (i := 7) (v := .agg #[.int .i64 Q.1.1, .bool Q.1.2.1, .int .i64 Q.1.2.2.1, .int .i64 Q.1.2.2.2]) rfl (by kernel_rfl) (by kernel_rfl) (by kernel_rfl) (fun _ _ _ h => h) (Or.inl ⟨by rfl, ?_⟩) hH ?_
       ·intro wq hSw
        try dsimp only at hSw
        go_simp
       try simp only [Act.put, zq1, zq2, zq3, zq4, zq5, zq6]
       refine wpAnyH_take (i := 8) (v := .int .i64 Q.2) rfl (by kernel_rfl) (by kernel_rfl) (by kernel_rfl) (fun _ _ _ h => h) (Or.inl ⟨by rfl, ?_⟩) hH ?_
       ·intro wq hSw
        try dsimp only at hSw
        go_simp
       try simp only [Act.put, zq1, zq2, zq3, zq4, zq5, zq6]
       refine wpAnyH_ready (rs := [9]) (by kernel_rfl) (by simp) ?_
       refine AllReadyH.cons rfl (fun KK hK => ?_) AllReadyH.nil
       simp only [zq1, zq2, zq3]
       rw [if_pos (by rfl)]
       go_simp
       have kn := (Kept.refl 0 0 w8).alloc (.cells #[.int .i64 0, .bool false, .int .i64 0, .int .i64 0] 24)
       replace kw := kw.trans kn
       replace p0 := kn.cell0 p0
       replace p1 := kn.cell0 p1
       replace p2 := kn.cell0 p2
       replace p3 := kn.cell0 p3
       replace t0 := kn.cell0 t0
       replace t1 := kn.cell0 t1
       replace t2 := kn.cell0 t2
       replace t3 := kn.cell0 t3
       replace K := hide ((unhide K).trans kn)
       have z11 := kn.size
       clear kn
       have szy : w8.heap.size < (w8.alloc (.cells #[.int .i64 0, .bool false, .int .i64 0, .int .i64 0] 24)).heap.size := by simp
       have y0 : (w8.alloc (.cells #[.int .i64 0, .bool false, .int .i64 0, .int .i64 0] 24)).cell? ⟨w8.heap.size, 0, none⟩ = some (.int .i64 0) := new_cell2 _ _ _ _ _ _ rfl rfl
       have yf0 : (w8.alloc (.cells #[.int .i64 0, .bool false, .int .i64 0, .int .i64 0] 24)).frozen? ⟨w8.heap.size, 0, none⟩ = false := new_loose2 _ _ _ _ _ rfl
       have y1 : (w8.alloc (.cells #[.int .i64 0, .bool false, .int .i64 0, .int .i64 0] 24)).cell? ⟨w8.heap.size, 1, none⟩ = some (.bool false) := new_cell2 _ _ _ _ _ _ rfl rfl
       have yf1 : (w8.alloc (.cells #[.int .i64 0, .bool false, .int .i64 0, .int .i64 0] 24)).frozen? ⟨w8.heap.size, 1, none⟩ = false := new_loose2 _ _ _ _ _ rfl
       have y2 : (w8.alloc (.cells #[.int .i64 0, .bool false, .int .i64 0, .int .i64 0] 24)).cell? ⟨w8.heap.size, 2, none⟩ = some (.int .i64 0) := new_cell2 _ _ _ _ _ _ rfl rfl
       have yf2 : (w8.alloc (.cells #[.int .i64 0, .bool false, .int .i64 0, .int .i64 0] 24)).frozen? ⟨w8.heap.size, 2, none⟩ = false := new_loose2 _ _ _ _ _ rfl
       have y3 : (w8.alloc (.cells #[.int .i64 0, .bool false, .int .i64 0, .int .i64 0] 24)).cell? ⟨w8.heap.size, 3, none⟩ = some (.int .i64 0) := new_cell2 _ _ _ _ _ _ rfl rfl
       have yf3 : (w8.alloc (.cells #[.int .i64 0, .bool false, .int .i64 0, .int .i64 0] 24)).frozen? ⟨w8.heap.size, 3, none⟩ = false := new_loose2 _ _ _ _ _ rfl
       clear hH
       refine hK.out _ _ ?_ (fun hH => ?_)
       ·exact ⟨p0, p1, p2, p3, t0, t1, t2, t3⟩
       clear hK KK
       try simp only [Act.put, zq1, zq2, zq3, zq4, zq5, zq6]
       generalize w8.alloc (.cells #[.int .i64 0, .bool false, .int .i64 0, .int .i64 0] 24) = w10 at *
       refine wpAnyH_ready (rs := [10]) (by kernel_rfl) (by simp) ?_
       refine AllReadyH.cons rfl (fun KK hK => ?_) AllReadyH.nil
       simp only [zq1, zq2, zq3]
       rw [if_pos (by rfl)]
       go_simp
       clear hH
       refine hK.out _ _ ?_ (fun hH => ?_)
       ·exact ⟨(cell_aside _ (by have := unhide S0; dsimp only; omega) (cw3 (by have := unhide S0; dsimp only; omega) p0)), (cell_aside _ (by have := unhide S0; dsimp only; omega) (cw3 (by have := unhide S0; dsimp only; omega) p1)), (cell_aside _ (by have := unhide S0; dsimp only; omega) (cw3 (by have := unhide S0; dsimp only; omega) p2)), (cell_aside _ (by have := unhide S0; dsimp only; omega) (cw3 (by have := unhide S0; dsimp only; omega) p3)), (cell_aside _ (by have := unhide S0; dsimp only; omega) (cw3 (by have := unhide S0; dsimp only; omega) t0)), (cell_aside _ (by have := unhide S0; dsimp only; omega) (cw3 (by have := unhide S0; dsimp only; omega) t1)), (cell_aside _ (by have := unhide S0; dsimp only; omega) (cw3 (by have := unhide S0; dsimp only; omega) t2)), (cell_aside _ (by have := unhide S0; dsimp only; omega) (cw3 (by have := unhide S0; dsimp only; omega) t3))⟩
       clear hK KK
       try simp only [Act.put, zq1, zq2, zq3, zq4, zq5, zq6]
       refine wpAnyH_take (i := 11) (v := .int .i64 Q.2) rfl (by kernel_rfl) (by kernel_rfl) (by kernel_rfl) (fun _ _ _ h => h) (Or.inl ⟨by rfl, ?_⟩) hH ?_
       ·intro wq hSw
        try dsimp only at hSw
        go_simp
       try simp only [Act.put, zq1, zq2, zq3, zq4, zq5, zq6]
       refine wpAnyH_done (by kernel_rfl) ?_ _
       clear hH
       go_wp2_with fail
       go_meet
       exact ⟨_, rfl, rfl, FB.set4 _ _ _ _ y0 y1 y2 y3, ((((kw.setNew (p := ⟨w8.heap.size, 0, none⟩) (by have := unhide S0; dsimp only; omega) (.int .i64 Q.1.1)).setNew (p := ⟨w8.heap.size, 1, none⟩) (by have := unhide S0; dsimp only; omega) (.bool Q.1.2.1)).setNew (p := ⟨w8.heap.size, 2, none⟩) (by have := unhide S0; dsimp only; omega) (.int .i64 Q.1.2.2.1)).setNew (p := ⟨w8.heap.size, 3, none⟩) (by have := unhide S0; dsimp only; omega) (.int .i64 Q.1.2.2.2))⟩
      ·simp only [zq1, zq2, zq3]
       rw [if_pos (by rfl)]
       go_simp
       have kn := (Kept.refl 0 0 w6).alloc (.cells #[.int .i64 0, .bool false, .int .i64 0, .int .i64 0] 24)
       replace kw := kw.trans kn
       replace p0 := kn.cell0 p0
       replace p1 := kn.cell0 p1
       replace p2 := kn.cell0 p2
       replace p3 := kn.cell0 p3
       replace t0 := kn.cell0 t0
       replace t1 := kn.cell0 t1
       replace t2 := kn.cell0 t2
       replace t3 := kn.cell0 t3
       replace K := hide ((unhide K).trans kn)
       have z9 := kn.size
       clear kn
       have szy : w6.heap.size < (w6.alloc (.cells #[.int .i64 0, .bool false, .int .i64 0, .int .i64 0] 24)).heap.size := by simp
       have y0 : (w6.alloc (.cells #[.int .i64 0, .bool false, .int .i64 0, .int .i64 0] 24)).cell? ⟨w6.heap.size, 0, none⟩ = some (.int .i64 0) := new_cell2 _ _ _ _ _ _ rfl rfl
       have yf0 : (w6.alloc (.cells #[.int .i64 0, .bool false, .int .i64 0, .int .i64 0] 24)).frozen? ⟨w6.heap.size, 0, none⟩ = false := new_loose2 _ _ _ _ _ rfl
       have y1 : (w6.alloc (.cells #[.int .i64 0, .bool false, .int .i64 0, .int .i64 0] 24)).cell? ⟨w6.heap.size, 1, none⟩ = some (.bool false) := new_cell2 _ _ _ _ _ _ rfl rfl
       have yf1 : (w6.alloc (.cells #[.int .i64 0, .bool false, .int .i64 0, .int .i64 0] 24)).frozen? ⟨w6.heap.size, 1, none⟩ = false := new_loose2 _ _ _ _ _ rfl
       have y2 : (w6.alloc (.cells #[.int .i64 0, .bool false, .int .i64 0, .int .i64 0] 24)).cell? ⟨w6.heap.size, 2, none⟩ = some (.int .i64 0) := new_cell2 _ _ _ _ _ _ rfl rfl
       have yf2 : (w6.alloc (.cells #[.int .i64 0, .bool false, .int .i64 0, .int .i64 0] 24)).frozen? ⟨w6.heap.size, 2, none⟩ = false := new_loose2 _ _ _ _ _ rfl
       have y3 : (w6.alloc (.cells #[.int .i64 0, .bool false, .int .i64 0, .int .i64 0] 24)).cell? ⟨w6.heap.size, 3, none⟩ = some (.int .i64 0) := new_cell2 _ _ _ _ _ _ rfl rfl
       have yf3 : (w6.alloc (.cells #[.int .i64 0, .bool false, .int .i64 0, .int .i64 0] 24)).frozen? ⟨w6.heap.size, 3, none⟩ = false := new_loose2 _ _ _ _ _ rfl
       clear hH
       refine hK.out _ _ ?_ (fun hH => ?_)
       ·exact ⟨p0, p1, p2, p3, t0, t1, t2, t3⟩
       clear hK KK
       try simp only [Act.put, zq1, zq2, zq3, zq4, zq5, zq6]
       generalize w6.alloc (.cells #[.int .i64 0, .bool false, .int .i64 0, .int .i64 0] 24) = w8 at *
       refine wpAnyH_ready (rs := [5]) (by kernel_rfl) (by simp) ?_
       refine AllReadyH.cons rfl (fun KK hK => ?_) AllReadyH.nil
       simp only [zq1, zq2, zq3]
       rw [if_pos (by rfl)]
       refine wps3 7 (.tmp 22) (.tmp 24) (.tmp 25) _ rfl in_impl_FlDiv_t (.agg #[.int .i64 k1, .bool n1, .int .i64 m1, .int .i64 e1]) (.agg #[.int .i64 k2, .bool n2, .int .i64 m2, .int .i64 e2]) (.int .i64 mode) rfl rfl rfl (unhide mi _ (T.kept (unhide K))) ?_
       rintro e w10 ⟨rfl, k10⟩
       refine ⟨_, rfl, ?_⟩
       replace kw := kw.trans k10
       replace yf0 := k10.loose0 (zbl y0) yf0
       replace yf1 := k10.loose0 (zbl y1) yf1
       replace yf2 := k10.loose0 (zbl y2) yf2
       replace yf3 := k10.loose0 (zbl y3) yf3
       replace p0 := k10.cell0 p0
       replace p1 := k10.cell0 p1
       replace p2 := k10.cell0 p2
       replace p3 := k10.cell0 p3
       replace t0 := k10.cell0 t0
       replace t1 := k10.cell0 t1
       replace t2 := k10.cell0 t2
       replace t3 := k10.cell0 t3
       replace y0 := k10.cell0 y0
       replace y1 := k10.cell0 y1
       replace y2 := k10.cell0 y2
       replace y3 := k10.cell0 y3
       replace K := hide ((unhide K).trans k10)
       have z11 := k10.size
       clear k10
       clear hH
       refine hK.out _ _ ?_ (fun hH => ?_)
       ·exact ⟨p0, p1, p2, p3, t0, t1, t2, t3⟩
       clear hK KK
       try simp only [Act.put, zq1, zq2, zq3, zq4, zq5, zq6]
       refine wpAnyH_take (i := 6) (v := .tuple #[.agg #[.int .i64 Q.1.1, .bool Q.1.2.1, .int .i64 Q.1.2.2.1, .int .i64 Q.1.2.2.2], .int .i64 Q.2]) rfl (by kernel_rfl) (by kernel_rfl) (by kernel_rfl) (fun _ _ _ h => h) (Or.inl ⟨by rfl, ?_⟩) hH ?_
       ·intro wq hSw
        try dsimp only at hSw
        go_simp
       try simp only [Act.put, zq1, zq2, zq3, zq4, zq5, zq6]
       refine wpAnyH_take (i := 7) (v := .agg #[.int .i64 Q.1.1, .bool Q.1.2.1, .int .i64 Q.1.2.2.1, .int .i64 Q.1.2.2.2]) rfl (by kernel_rfl) (by kernel_rfl) (by kernel_rfl) (fun _ _ _ h => h) (Or.inl ⟨by rfl, ?_⟩) hH ?_
       ·intro wq hSw
        try dsimp only at hSw
        go_simp
       try simp only [Act.put, zq1, zq2, zq3, zq4, zq5, zq6]
       refine wpAnyH_take (i := 8) (v := .int .i64 Q.2) rfl (by kernel_rfl) (by kernel_rfl) (by kernel_rfl) (fun _ _ _ h => h) (Or.inl ⟨by rfl, ?_⟩) hH ?_
       ·intro wq hSw
        try dsimp only at hSw
        go_simp
       try simp only [Act.put, zq1, zq2, zq3, zq4, zq5, zq6]
       refine wpAnyH_ready (rs := [10]) (by kernel_rfl) (by simp) ?_
       refine AllReadyH.cons rfl (fun KK hK => ?_) AllReadyH.nil
       simp only [zq1, zq2, zq3]
       rw [if_pos (by rfl)]
       go_simp
       clear hH
       refine hK.out _ _ ?_ (fun hH => ?_)
       ·exact ⟨(cell_aside _ (by have := unhide S0; dsimp only; omega) (cw3 (by have := unhide S0; dsimp only; omega) p0)), (cell_aside _ (by have := unhide S0; dsimp only; omega) (cw3 (by have := unhide S0; dsimp only; omega) p1)), (cell_aside _ (by have := unhide S0; dsimp only; omega) (cw3 (by have := unhide S0; dsimp only; omega) p2)), (cell_aside _ (by have := unhide S0; dsimp only; omega) (cw3 (by have := unhide S0; dsimp only; omega) p3)), (cell_aside _ (by have := unhide S0; dsimp only; omega) (cw3 (by have := unhide S0; dsimp only; omega) t0)), (cell_aside _ (by have := unhide S0; dsimp only; omega) (cw3 (by have := unhide S0; dsimp only; omega) t1)), (cell_aside _ (by have := unhide S0; dsimp only; omega) (cw3 (by have := unhide S0; dsimp only; omega) t2)), (cell_aside _ (by have := unhide S0; dsimp only; omega) (cw3 (by have := unhide S0; dsimp only; omega) t3))⟩
       clear hK KK
       try simp only [Act.put, zq1, zq2, zq3, zq4, zq5, zq6]
       refine wpAnyH_take (i := 11) (v := .int .i64 Q.2) rfl (by kernel_rfl) (by kernel_rfl) (by kernel_rfl) (fun _ _ _ h => h) (Or.inl ⟨by rfl, ?_⟩) hH ?_
       ·intro wq hSw
        try dsimp only at hSw
        go_simp
       try simp only [Act.put, zq1, zq2, zq3, zq4, zq5, zq6]
       refine wpAnyH_done (by kernel_rfl) ?_ _
       clear hH
       go_wp2_with fail
       go_meet
       exact ⟨_, rfl, rfl, FB.set4 _ _ _ _ y0 y1 y2 y3, ((((kw.setNew (p := ⟨w6.heap.size, 0, none⟩) (by have := unhide S0; dsimp only; omega) (.int .i64 Q.1.1)).setNew (p := ⟨w6.heap.size, 1, none⟩) (by have := unhide S0; dsimp only; omega) (.bool Q.1.2.1)).setNew (p := ⟨w6.heap.size, 2, none⟩) (by have := unhide S0; dsimp only; omega) (.int .i64 Q.1.2.2.1)).setNew (p := ⟨w6.heap.size, 3, none⟩) (by have := unhide S0; dsimp only; omega) (.int .i64 Q.1.2.2.2))⟩
     ·simp only [zq1, zq2, zq3]
      rw [if_pos (by rfl)]
      go_simp
      have kn := (Kept.refl 0 0 w4).alloc (.cells #[.int .i64 0, .bool false, .int .i64 0, .int .i64 0] 24)
      replace kw := kw.trans kn
      replace p0 := kn.cell0 p0
      replace p1 := kn.cell0 p1
      replace p2 := kn.cell0 p2
      replace p3 := kn.cell0 p3
      replace t0 := kn.cell0 t0
      replace t1 := kn.cell0 t1
      replace t2 := kn.cell0 t2
      replace t3 := kn.cell0 t3
      replace K := hide ((unhide K).trans kn)
      have z7 := kn.size
      clear kn
      have szy : w4.heap.size < (w4.alloc (.cells #[.int .i64 0, .bool false, .int .i64 0, .int .i64 0] 24)).heap.size := by simp
      have y0 : (w4.alloc (.cells #[.int .i64 0, .bool false, .int .i64 0, .int .i64 0] 24)).cell? ⟨w4.heap.size, 0, none⟩ = some (.int .i64 0) := new_cell2 _ _ _ _ _ _ rfl rfl
      have yf0 : (w4.alloc (.cells #[.int .i64 0, .bool false, .int .i64 0, .int .i64 0] 24)).frozen? ⟨w4.heap.size, 0, none⟩ = false := new_loose2 _ _ _ _ _ rfl
      have y1 : (w4.alloc (.cells #[.int .i64 0, .bool false, .int .i64 0, .int .i64 0] 24)).cell? ⟨w4.heap.size, 1, none⟩ = some (.bool false) := new_cell2 _ _ _ _ _ _ rfl rfl
      have yf1 : (w4.alloc (.cells #[.int .i64 0, .bool false, .int .i64 0, .int .i64 0] 24)).frozen? ⟨w4.heap.size, 1, none⟩ = false := new_loose2 _ _ _ _ _ rfl
      have y2 : (w4.alloc (.cells #[.int .i64 0, .bool false, .int .i64 0, .int .i64 0] 24)).cell? ⟨w4.heap.size, 2, none⟩ = some (.int .i64 0) := new_cell2 _ _ _ _ _ _ rfl rfl
      have yf2 : (w4.alloc (.cells #[.int .i64 0, .bool false, .int .i64 0, .int .i64 0] 24)).frozen? ⟨w4.heap.size, 2, none⟩ = false := new_loose2 _ _ _ _ _ rfl
      have y3 : (w4.alloc (.cells #[.int .i64 0, .bool false, .int .i64 0, .int .i64 0] 24)).cell? ⟨w4.heap.size, 3, none⟩ = some (.int .i64 0) := new_cell2 _ _ _ _ _ _ rfl rfl
      have yf3 : (w4.alloc (.cells #[.int .i64 0, .bool false, .int .i64 0, .int .i64 0] 24)).frozen? ⟨w4.heap.size, 3, none⟩ = false := new_loose2 _ _ _ _ _ rfl
      clear hH
      refine hK.out _ _ ?_ (fun hH => ?_)
      ·exact ⟨p0, p1, p2, p3, t0, t1, t2, t3⟩
      clear hK KK
      try simp only [Act.put, zq1, zq2, zq3, zq4, zq5, zq6]
      generalize w4.alloc (.cells #[.int .i64 0, .bool false, .int .i64 0, .int .i64 0] 24) = w6 at *
      refine wpAnyH_ready (rs := [3]) (by kernel_rfl) (by simp) ?_
      refine AllReadyH.cons rfl (fun KK hK => ?_) AllReadyH.nil
      simp only [zq1, zq2, zq3]
      rw [if_pos (by rfl)]
      refine wps1 6 (.tmp 23) _ rfl in_laws_toFl_t (.agg #[.int .i64 k2, .bool n2, .int .i64 m2, .int .i64 e2]) rfl (toFl_k k2 n2 m2 e2 _) ?_
      rintro e w8 ⟨rfl, k8⟩
      refine ⟨_, rfl, ?_⟩
      replace kw := kw.trans k8
      replace yf0 := k8.loose0 (zbl y0) yf0
      replace yf1 := k8.loose0 (zbl y1) yf1
      replace yf2 := k8.loose0 (zbl y2) yf2
      replace yf3 := k8.loose0 (zbl y3) yf3
      replace p0 := k8.cell0 p0
      replace p1 := k8.cell0 p1
      replace p2 := k8.cell0 p2
      replace p3 := k8.cell0 p3
      replace t0 := k8.cell0 t0
      replace t1 := k8.cell0 t1
      replace t2 := k8.cell0 t2
      replace t3 := k8.cell0 t3
      replace y0 := k8.cell0 y0
      replace y1 := k8.cell0 y1
      replace y2 := k8.cell0 y2
      replace y3 := k8.cell0 y3
      replace K := hide ((unhide K).trans k8)
      have z9 := k8.size
      clear k8
      clear hH
      refine hK.out _ _ ?_ (fun hH => ?_)
      ·exact ⟨p0, p1, p2, p3, t0, t1, t2, t3⟩
      clear hK KK
      try simp only [Act.put, zq1, zq2, zq3, zq4, zq5, zq6]
      refine wpAnyH_ready (rs := [5]) (by kernel_rfl) (by simp) ?_
      refine AllReadyH.cons rfl (fun KK hK => ?_) AllReadyH.nil
      simp only [zq1, zq2, zq3]
      rw [if_pos (by rfl)]
      refine wps3 7 (.tmp 22) (.tmp 24) (.tmp 25) _ rfl in_impl_FlDiv_t (.agg #[.int .i64 k1, .bool n1, .int .i64 m1, .int .i64 e1]) (.agg #[.int .i64 k2, .bool n2, .int .i64 m2, .int .i64 e2]) (.int .i64 mode) rfl rfl rfl (unhide mi _ (T.kept (unhide K))) ?_
      rintro e w10 ⟨rfl, k10⟩
      refine ⟨_, rfl, ?_⟩
      replace kw := kw.trans k10
      replace yf0 := k10.loose0 (zbl y0) yf0
      replace yf1 := k10.loose0 (zbl y1) yf1
      replace yf2 := k10.loose0 (zbl y2) yf2
      replace yf3 := k10.loose0 (zbl y3) yf3
      replace p0 := k10.cell0 p0
      replace p1 := k10.cell0 p1
      replace p2 := k10.cell0 p2
      replace p3 := k10.cell0 p3
      replace t0 := k10.cell0 t0
      replace t1 := k10.cell0 t1
      replace t2 := k10.cell0 t2
      replace t3 := k10.cell0 t3
      replace y0 := k10.cell0 y0
      replace y1 := k10.cell0 y1
      replace y2 := k10.cell0 y2
      replace y3 := k10.cell0 y3
      replace K := hide ((unhide K).trans k10)
      have z11 := k10.size
      clear k10
      clear hH
      refine hK.out _ _ ?_ (fun hH => ?_)
      ·exact ⟨p0, p1, p2, p3, t0, t1, t2, t3⟩
      clear hK KK
      try simp only [Act.put, zq1, zq2, zq3, zq4, zq5, zq6]
      refine wpAnyH_take (i := 6) (v := .tuple #[.agg #[.int .i64 Q.1.1, .bool Q.1.2.1, .int .i64 Q.1.2.2.1, .int .i64 Q.1.2.2.2], .int .i64 Q.2]) rfl (by kernel_rfl) (by kernel_rfl) (by kernel_rfl) (fun _ _ _ h => h) (Or.inl ⟨by rfl, ?_⟩) hH ?_
      ·intro wq hSw
       try dsimp only at hSw
       go_simp
      try simp only [Act.put, zq1, zq2, zq3, zq4, zq5, zq6]
      refine wpAnyH_take (i := 7) (v := .agg #[.int .i64 Q.1.1, .bool Q.1.2.1, .int .i64 Q.1.2.2.1, .int .i64 Q.1.2.2.2]) rfl (by kernel_rfl) (by kernel_rfl) (by kernel_rfl) (fun _ _ _ h => h) (Or.inl ⟨by rfl, ?_⟩) hH ?_
      ·intro wq hSw
       try dsimp only at hSw
       go_simp
      try simp only [Act.put, zq1, zq2, zq3, zq4, zq5, zq6]
      refine wpAnyH_take (i := 8) (v := .int .i64 Q.2) rfl (by kernel_rfl) (by kernel_rfl) (by kernel_rfl) (fun _ _ _ h => h) (Or.inl ⟨by rfl, ?_⟩) hH ?_
      ·intro wq hSw
       try dsimp only at hSw
       go_simp
      try simp only [Act.put, zq1, zq2, zq3, zq4, zq5, zq6]
      refine wpAnyH_ready (rs := [10]) (by kernel_rfl) (by simp) ?_
      refine AllReadyH.cons rfl (fun KK hK => ?_) AllReadyH.nil
      simp only [zq1, zq2, zq3]
      rw [if_pos (by rfl)]
      go_simp
      clear hH
      refine hK.out _ _ ?_ (fun hH => ?_)
      ·exact ⟨(cell_aside _ (by have := unhide S0; dsimp only; omega) (cw3 (by have := unhide S0; dsimp only; omega) p0)), (cell_aside _ (by have := unhide S0; dsimp only; omega) (cw3 (by have := unhide S0; dsimp only; omega) p1)), (cell_aside _ (by have := unhide S0; dsimp only; omega) (cw3 (by have := unhide S0; dsimp only; omega) p2)), (cell_aside _ (by have := unhide S0; dsimp only; omega) (cw3 (by have := unhide S0; dsimp only; omega) p3)), (cell_aside _ (by have := unhide S0; dsimp only; omega) (cw3 (by have := unhide S0; dsimp only; omega) t0)), (cell_aside _ (by have := unhide S0; dsimp only; omega) (cw3 (by have := unhide S0; dsimp only; omega) t1)), (cell_aside _ (by have := unhide S0; dsimp only; omega) (cw3 (by have := unhide S0; dsimp only; omega) t2)), (cell_aside _ (by have := unhide S0; dsimp only; omega) (cw3 (by have := unhide S0; dsimp only; omega) t3))⟩
      clear hK KK
      try simp only [Act.put, zq1, zq2, zq3, zq4, zq5, zq6]
      refine wpAnyH_take (i := 11) (v := .int .i64 Q.2) rfl (by kernel_rfl) (by kernel_rfl) (by kernel_rfl) (fun _ _ _ h => h) (Or.inl ⟨by rfl, ?_⟩) hH ?_
      ·intro wq hSw
       try dsimp only at hSw
       go_simp
      try simp only [Act.put, zq1, zq2, zq3, zq4, zq5, zq6]
      refine wpAnyH_done (by kernel_rfl) ?_ _
      clear hH
      go_wp2_with fail
      go_meet
      exact ⟨_, rfl, rfl, FB.set4 _ _ _ _ y0 y1 y2 y3, ((((kw.setNew (p := ⟨w4.heap.size, 0, none⟩) (by have := unhide S0; dsimp only; omega) (.int .i64 Q.1.1)).setNew (p := ⟨w4.heap.size, 1, none⟩) (by have := unhide S0; dsimp only; omega) (.bool Q.1.2.1)).setNew (p := ⟨w4.heap.size, 2, none⟩) (by have := unhide S0; dsimp only; omega) (.int .i64 Q.1.2.2.1)).setNew (p := ⟨w4.heap.size, 3, none⟩) (by have := unhide S0; dsimp only; omega) (.int .i64 Q.1.2.2.2))⟩
    ·simp only [zq1, zq2, zq3]
     rw [if_pos (by rfl)]
     go_simp
     have kn := (Kept.refl 0 0 wd3).alloc (.cells #[.int .i64 0, .bool false, .int .i64 0, .int .i64 0] 24)
     replace kw := kw.trans kn
     replace p0 := kn.cell0 p0
     replace p1 := kn.cell0 p1
     replace p2 := kn.cell0 p2
     replace p3 := kn.cell0 p3
     replace t0 := kn.cell0 t0
     replace t1 := kn.cell0 t1
     replace t2 := kn.cell0 t2
     replace t3 := kn.cell0 t3
     replace K := hide ((unhide K).trans kn)
     have z5 := kn.size
     clear kn
     have szy : wd3.heap.size < (wd3.alloc (.cells #[.int .i64 0, .bool false, .int .i64 0, .int .i64 0] 24)).heap.size := by simp
     have y0 : (wd3.alloc (.cells #[.int .i64 0, .bool false, .int .i64 0, .int .i64 0] 24)).cell? ⟨wd3.heap.size, 0, none⟩ = some (.int .i64 0) := new_cell2 _ _ _ _ _ _ rfl rfl
     have yf0 : (wd3.alloc (.cells #[.int .i64 0, .bool false, .int .i64 0, .int .i64 0] 24)).frozen? ⟨wd3.heap.size, 0, none⟩ = false := new_loose2 _ _ _ _ _ rfl
     have y1 : (wd3.alloc (.cells #[.int .i64 0, .bool false, .int .i64 0, .int .i64 0] 24)).cell? ⟨wd3.heap.size, 1, none⟩ = some (.bool false) := new_cell2 _ _ _ _ _ _ rfl rfl
     have yf1 : (wd3.alloc (.cells #[.int .i64 0, .bool false, .int .i64 0, .int .i64 0] 24)).frozen? ⟨wd3.heap.size, 1, none⟩ = false := new_loose2 _ _ _ _ _ rfl
     have y2 : (wd3.alloc (.cells #[.int .i64 0, .bool false, .int .i64 0, .int .i64 0] 24)).cell? ⟨wd3.heap.size, 2, none⟩ = some (.int .i64 0) := new_cell2 _ _ _ _ _ _ rfl rfl
     have yf2 : (wd3.alloc (.cells #[.int .i64 0, .bool false, .int .i64 0, .int .i64 0] 24)).frozen? ⟨wd3.heap.size, 2, none⟩ = false := new_loose2 _ _ _ _ _ rfl
     have y3 : (wd3.alloc (.cells #[.int .i64 0, .bool false, .int .i64 0, .int .i64 0] 24)).cell? ⟨wd3.heap.size, 3, none⟩ = some (.int .i64 0) := new_cell2 _ _ _ _ _ _ rfl rfl
     have yf3 : (wd3.alloc (.cells #[.int .i64 0, .bool false, .int .i64 0, .int .i64 0] 24)).frozen? ⟨wd3.heap.size, 3, none⟩ = false := new_loose2 _ _ _ _ _ rfl
     clear hH
     refine hK.out _ _ ?_ (fun hH => ?_)
     ·exact ⟨p0, p1, p2, p3, t0, t1, t2, t3⟩
     clear hK KK
     try simp only [Act.put, zq1, zq2, zq3, zq4, zq5, zq6]
     generalize wd3.alloc (.cells #[.int .i64 0, .bool false, .int .i64 0, .int .i64 0] 24) = w4 at *
     refine wpAnyH_ready (rs := [1]) (by kernel_rfl) (by simp) ?_
     refine AllReadyH.cons rfl (fun KK hK => ?_) AllReadyH.nil
     simp only [zq1, zq2, zq3]
     rw [if_pos (by rfl)]
     refine wps1 6 (.tmp 21) _ rfl in_laws_toFl_t (.agg #[.int .i64 k1, .bool n1, .int .i64 m1, .int .i64 e1]) rfl (toFl_k k1 n1 m1 e1 _) ?_
     rintro e w6 ⟨rfl, k6⟩
     refine ⟨_, rfl, ?_⟩
     replace kw := kw.trans k6
     replace yf0 := k6.loose0 (zbl y0) yf0
     replace yf1 := k6.loose0 (zbl y1) yf1
     replace yf2 := k6.loose0 (zbl y2) yf2
     replace yf3 := k6.loose0 (zbl y3) yf3
     replace p0 := k6.cell0 p0
     replace p1 := k6.cell0 p1
     replace p2 := k6.cell0 p2
     replace p3 := k6.cell0 p3
     replace t0 := k6.cell0 t0
     replace t1 := k6.cell0 t1
     replace t2 := k6.cell0 t2
     replace t3 := k6.cell0 t3
     replace y0 := k6.cell0 y0
     replace y1 := k6.cell0 y1
     replace y2 := k6.cell0 y2
     replace y3 := k6.cell0 y3
     replace K := hide ((unhide K).trans k6)
     have z7 := k6.size
     clear k6
     clear hH
     refine hK.out _ _ ?_ (fun hH => ?_)
     ·exact ⟨p0, p1, p2, p3, t0, t1, t2, t3⟩
     clear hK KK
     try simp only [Act.put, zq1, zq2, zq3, zq4, zq5, zq6]
     refine wpAnyH_ready (rs := [3]) (by kernel_rfl) (by simp) ?_
     refine AllReadyH.cons rfl (fun KK hK => ?_) AllReadyH.nil
     simp only [zq1, zq2, zq3]
     rw [if_pos (by rfl)]
     refine wps1 6 (.tmp 23) _ rfl in_laws_toFl_t (.agg #[.int .i64 k2, .bool n2, .int .i64 m2, .int .i64 e2]) rfl (toFl_k k2 n2 m2 e2 _) ?_
     rintro e w8 ⟨rfl, k8⟩
     refine ⟨_, rfl, ?_⟩
     replace kw := kw.trans k8
     replace yf0 := k8.loose0 (zbl y0) yf0
     replace yf1 := k8.loose0 (zbl y1) yf1
     replace yf2 := k8.loose0 (zbl y2) yf2
     replace yf3 := k8.loose0 (zbl y3) yf3
     replace p0 := k8.cell0 p0
     replace p1 := k8.cell0 p1
     replace p2 := k8.cell0 p2
     replace p3 := k8.cell0 p3
     replace t0 := k8.cell0 t0
     replace t1 := k8.cell0 t1
     replace t2 := k8.cell0 t2
     replace t3 := k8.cell0 t3
     replace y0 := k8.cell0 y0
     replace y1 := k8.cell0 y1
     replace y2 := k8.cell0 y2
     replace y3 := k8.cell0 y3
     replace K := hide ((unhide K).trans k8)
     have z9 := k8.size
     clear k8
     clear hH
     refine hK.out _ _ ?_ (fun hH => ?_)
     ·exact ⟨p0, p1, p2, p3, t0, t1, t2, t3⟩
     clear hK KK
     try simp only [Act.put, zq1, zq2, zq3, zq4, zq5, zq6]
     refine wpAnyH_ready (rs := [5]) (by kernel_rfl) (by simp) ?_
     refine AllReadyH.cons rfl (fun KK hK => ?_) AllReadyH.nil
     simp only [zq1, zq2, zq3]
     rw [if_pos (by rfl)]
     refine wps3 7 (.tmp 22) (.tmp 24) (.tmp 25) _ rfl in_impl_FlDiv_t (.agg #[.int .i64 k1, .bool n1, .int .i64 m1, .int .i64 e1]) (.agg #[.int .i64 k2, .bool n2, .int .i64 m2, .int .i64 e2]) (.int .i64 mode) rfl rfl rfl (unhide mi _ (T.kept (unhide K))) ?_
     rintro e w10 ⟨rfl, k10⟩
     refine ⟨_, rfl, ?_⟩
     replace kw := kw.trans k10
     replace yf0 := k10.loose0 (zbl y0) yf0
     replace yf1 := k10.loose0 (zbl y1) yf1
     replace yf2 := k10.loose0 (zbl y2) yf2
     replace yf3 := k10.loose0 (zbl y3) yf3
     replace p0 := k10.cell0 p0
     replace p1 := k10.cell0 p1
     replace p2 := k10.cell0 p2
     replace p3 := k10.cell0 p3
     replace t0 := k10.cell0 t0
     replace t1 := k10.cell0 t1
     replace t2 := k10.cell0 t2
     replace t3 := k10.cell0 t3
     replace y0 := k10.cell0 y0
     replace y1 := k10.cell0 y1
     replace y2 := k10.cell0 y2
     replace y3 := k10.cell0 y3
     replace K := hide ((unhide K).trans k10)
     have z11 := k10.size
     clear k10
     clear hH
     refine hK.out _ _ ?_ (fun hH => ?_)
     ·exact ⟨p0, p1, p2, p3, t0, t1, t2, t3⟩
     clear hK KK
     try simp only [Act.put, zq1, zq2, zq3, zq4, zq5, zq6]
     refine wpAnyH_take (i := 6) (v := .tuple #[.agg #[.int .i64 Q.1.1, .bool Q.1.2.1, .int .i64 Q.1.2.2.1, .int .i64 Q.1.2.2.2], .int .i64 Q.2]) rfl (by kernel_rfl) (by kernel_rfl) (by kernel_rfl) (fun _ _ _ h => h) (Or.inl ⟨by rfl, ?_⟩) hH ?_
     ·intro wq hSw
      try dsimp only at hSw
      go_simp
     try simp only [Act.put, zq1, zq2, zq3, zq4, zq5, zq6]
     refine wpAnyH_take (i := 7) (v := .agg #[.int .i64 Q.1.1, .bool Q.1.2.1, .int .i64 Q.1.2.2.1, .int .i64 Q.1.2.2.2]) rfl (by kernel_rfl) (by kernel_rfl) (by kernel_rfl) (fun _ _ _ h => h) (Or.inl ⟨by rfl, ?_⟩) hH ?_
     ·intro wq hSw
      try dsimp only at hSw
      go_simp
     try simp only [Act.put, zq1, zq2, zq3, zq4, zq5, zq6]
     refine wpAnyH_take (i := 8) (v := .int .i64 Q.2) rfl (by kernel_rfl) (by kernel_rfl) (by kernel_rfl) (fun _ _ _ h => h) (Or.inl ⟨by rfl, ?_⟩) hH ?_
     ·intro wq hSw
      try dsimp only at hSw
      go_simp
     try simp only [Act.put, zq1, zq2, zq3, zq4, zq5, zq6]
     refine wpAnyH_ready (rs := [10]) (by kernel_rfl) (by simp) ?_
     refine AllReadyH.cons rfl (fun KK hK => ?_) AllReadyH.nil
     simp only [zq1, zq2, zq3]
     rw [if_pos (by rfl)]
     go_simp
     clear hH
     refine hK.out _ _ ?_ (fun hH => ?_)
     ·exact ⟨(cell_aside _ (by have := unhide S0; dsimp only; omega) (cw3 (by have := unhide S0; dsimp only; omega) p0)), (cell_aside _ (by have := unhide S0; dsimp only; omega) (cw3 (by have := unhide S0; dsimp only; omega) p1)), (cell_aside _ (by have := unhide S0; dsimp only; omega) (cw3 (by have := unhide S0; dsimp only; omega) p2)), (cell_aside _ (by have := unhide S0; dsimp only; omega) (cw3 (by have := unhide S0; dsimp only; omega) p3)), (cell_aside _ (by have := unhide S0; dsimp only; omega) (cw3 (by have := unhide S0; dsimp only; omega) t0)), (cell_aside _ (by have := unhide S0; dsimp only; omega) (cw3 (by have := unhide S0; dsimp only; omega) t1)), (cell_aside _ (by have := unhide S0; dsimp only; omega) (cw3 (by have := unhide S0; dsimp only; omega) t2)), (cell_aside _ (by have := unhide S0; dsimp only; omega) (cw3 (by have := unhide S0; dsimp only; omega) t3))⟩
     clear hK KK
     try simp only [Act.put, zq1, zq2, zq3, zq4, zq5, zq6]
     refine wpAnyH_take (i := 11) (v := .int .i64 Q.2) rfl (by kernel_rfl) (by kernel_rfl) (by kernel_rfl) (fun _ _ _ h => h) (Or.inl ⟨by rfl, ?_⟩) hH ?_
     ·intro wq hSw
      try dsimp only at hSw
      go_simp
     try simp only [Act.put, zq1, zq2, zq3, zq4, zq5, zq6]
     refine wpAnyH_done (by kernel_rfl) ?_ _
     clear hH
     go_wp2_with fail
     go_meet
     exact ⟨_, rfl, rfl, FB.set4 _ _ _ _ y0 y1 y2 y3, ((((kw.setNew (p := ⟨wd3.heap.size, 0, none⟩) (by have := unhide S0; dsimp only; omega) (.int .i64 Q.1.1)).setNew (p := ⟨wd3.heap.size, 1, none⟩) (by have := unhide S0; dsimp only; omega) (.bool Q.1.2.1)).setNew (p := ⟨wd3.heap.size, 2, none⟩) (by have := unhide S0; dsimp only; omega) (.int .i64 Q.1.2.2.1)).setNew (p := ⟨wd3.heap.size, 3, none⟩) (by have := unhide S0; dsimp only; omega) (.int .i64 Q.1.2.2.2))⟩
   case rest =>
    obtain ⟨Xg, rfl, rfl, Fg, kx⟩ := hcut
    replace p0 := kx.cell0 p0
    replace p1 := kx.cell0 p1
    replace p2 := kx.cell0 p2
    replace p3 := kx.cell0 p3
    replace t0 := kx.cell0 t0
    replace t1 := kx.cell0 t1
    replace t2 := kx.cell0 t2
    replace t3 := kx.cell0 t3
    replace K := hide ((unhide K).trans kx)
    have z2 := kx.size
    replace Fw := Fw.kept kx
    clear kx
    skip
    have c0 := Fw.c0
    have c1 := Fw.c1
    have c2 := Fw.c2
    have c3 := Fw.c3
    have d0 := Fg.c0
    have d1 := Fg.c1
    have d2 := Fg.c2
    have d3 := Fg.c3
    go_wp2_with fail
    refine (eqFl_k2 Q.1.1 Q.1.2.1 Q.1.2.2.1 Q.1.2.2.2 _).mono ?_
    rintro e w3 ⟨rfl, k3⟩
    replace p0 := k3.cell0 p0
    replace p1 := k3.cell0 p1
    replace p2 := k3.cell0 p2
    replace p3 := k3.cell0 p3
    replace t0 := k3.cell0 t0
    replace t1 := k3.cell0 t1
    replace t2 := k3.cell0 t2
    replace t3 := k3.cell0 t3
    replace K := hide ((unhide K).trans k3)
    have z4 := k3.size
    clear k3
    clear c0 c1 c2 c3 d0 d1 d2 d3 Fw Fg
    go_wp2_with fail
    go_ret
    exact ⟨rfl, (unhide K).toBelow⟩

end Go.Proofs.YtflpkblmcnkghaaDoor

