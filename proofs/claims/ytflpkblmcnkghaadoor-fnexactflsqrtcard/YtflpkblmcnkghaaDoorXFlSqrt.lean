/-
  Roots of floats: FlSqrt of the model and of the program, and the walk of the law FnExactFlSqrt.
-/
import Derived.Test.YtflpkblmcnkghaaDoorFsq2
import Derived.Test.YtflpkblmcnkghaaDoorRt5
import Derived.Test.YtflpkblmcnkghaaDoorFlRd
import Derived.Deep.RegionHeld3
import Derived.Deep.DeepCutAuto
namespace Go.Proofs.YtflpkblmcnkghaaDoor
open Go.RowKit
set_option linter.unusedVariables false
set_option maxRecDepth 8000
set_option linter.unusedSimpArgs false

theorem in_l4top_s : ∀ (w : World) (args : Array Value), (callFunc 15 args).run Tryd.prog w = .ok (.enter 15 args) w := enters Tryd.func15 (by decide) (fun h => by cases h)

theorem in_l4sqrt_s : ∀ (w : World) (args : Array Value), (callFunc 25 args).run Tryd.prog w = .ok (.enter 25 args) w := enters Tryd.func25 (by decide) (fun h => by cases h)

theorem in_l5round_s : ∀ (w : World) (args : Array Value), (callFunc 16 args).run Tryd.prog w = .ok (.enter 16 args) w := enters Tryd.func16 (by decide) (fun h => by cases h)

theorem dok_fl (F e : Int) (h1 : F.natAbs < 2 ^ 64) (h2 : -2900 ≤ e) (h3 : e ≤ 2900) : dokB (wsg F) (dlm F) (dex F e) = true := by
  have := ok_ans F e h1 h2 h3
  unfold ansDB at this
  simpa using this
theorem wsg_std (Q : Nat) : wsg (wval false (limbs Q)) = false := by
  unfold wsg
  have : wval false (limbs Q) = (Q : Int) := by unfold wval; rw [if_neg (by decide), limbs_val]
  rw [this]
  exact decide_eq_false (by omega)
def okS (k : Int) (n : Bool) (m e mode : Int) : Bool := flok k n m e && modeB mode
def fsqQ (k : Int) (n : Bool) (m e mode : Int) : (Int × Bool × Int × Int) × Int := if okS k n m e mode = true then sqQ k n m e mode else ((3, false, 0, 0), 16)
theorem okS_iff {k : Int} {n : Bool} {m e mode : Int} (h : okS k n m e mode = true) : flok k n m e = true ∧ modeB mode = true ∧ 0 ≤ mode ∧ mode ≤ 4 := by
  unfold okS at h
  simp only [Bool.and_eq_true] at h
  have h2 := h.2
  unfold modeB at h2
  simp only [Bool.and_eq_true, decide_eq_true_eq] at h2
  exact ⟨h.1, h.2, h2.1, h2.2⟩

theorem top_odd {m : Int} (hm : 1 ≤ m) (e : Int) : topI (dlm (fM 1 false m)) (dex (fM 1 false m) e) = topI (limbs m.toNat) e := by
  rw [fM_pos hm]
  have hm0 : m ≠ 0 := by omega
  have hab : m.natAbs = m.toNat := by omega
  have hV : m.toNat ≠ 0 := by omega
  have hdx : dex m e = e + (tz m.toNat : Int) := by unfold dex; rw [if_neg hm0, hab]
  have hdl : dlm m = limbs (m.toNat / 2 ^ tz m.toNat) := by unfold dlm; rw [hab]
  obtain ⟨q, hq⟩ := tz_form hV
  have e1 : m.toNat / 2 ^ tz m.toNat * 2 ^ tz m.toNat = m.toNat := Nat.div_mul_cancel ⟨2 * q + 1, hq⟩
  have e2 : m.toNat / 2 ^ tz m.toNat ≠ 0 := fun h => by rw [h] at e1; omega
  rw [hdl, topI_limbs e2, topI_limbs hV, hdx]
  have := bits_shift e2 (tz m.toNat)
  rw [e1] at this
  omega

set_option maxHeartbeats 4000000 in
theorem sqS_nan (mode : Int) (hm0 : 0 ≤ mode) (hm4 : mode ≤ 4) (hmB : modeB mode = true) (ho : flok 3 false 0 0 = true) (w : World) :
    Calls Tryd.prog 9 #[flv 3 false 0 0, .int .i64 mode] w fun e' w' => e' = .returned (.tuple #[flq (sqQ 3 false 0 0 mode).1, .int .i64 (sqQ 3 false 0 0 mode).2]) ∧ Kept 0 0 w w' := by
  obtain ⟨Q, hQ⟩ : ∃ q, sqQ 3 false 0 0 mode = q := ⟨_, rfl⟩
  rw [hQ]
  have HQ := hide hQ
  clear hQ
  have FQ : Hid (Q = ((3, false, 0, 0), 0)) := by show _ = _; rw [← unhide HQ]; unfold sqQ; simp
  obtain ⟨Wn, hn0⟩ : ∃ wz, wz = ((w.alloc (.cells #[.int .i64 3, .bool false, .int .i64 0, .int .i64 0] 24)).alloc (.cells #[.int .i64 0, .bool false, .int .i64 0, .int .i64 0] 24)) := ⟨_, rfl⟩
  have k0 : Kept 0 0 w Wn := by rw [hn0]; exact (((Kept.refl 0 0 w).alloc _).alloc _)
  have p0 : Wn.cell? ⟨w.heap.size, 0, none⟩ = some (.int .i64 3) := by rw [hn0]; exact old_cell _ (new_cell2 _ _ _ _ _ _ (by simp) rfl)
  have p1 : Wn.cell? ⟨w.heap.size, 1, none⟩ = some (.bool false) := by rw [hn0]; exact old_cell _ (new_cell2 _ _ _ _ _ _ (by simp) rfl)
  have p2 : Wn.cell? ⟨w.heap.size, 2, none⟩ = some (.int .i64 0) := by rw [hn0]; exact old_cell _ (new_cell2 _ _ _ _ _ _ (by simp) rfl)
  have p3 : Wn.cell? ⟨w.heap.size, 3, none⟩ = some (.int .i64 0) := by rw [hn0]; exact old_cell _ (new_cell2 _ _ _ _ _ _ (by simp) rfl)
  have q0 : Wn.cell? ⟨w.heap.size + 1, 0, none⟩ = some (.int .i64 0) := by rw [hn0]; exact new_cell2 _ _ _ _ _ _ (by simp) rfl
  have qf0 : Wn.frozen? ⟨w.heap.size + 1, 0, none⟩ = false := by rw [hn0]; exact new_loose2 _ _ _ _ _ (by simp)
  have q1 : Wn.cell? ⟨w.heap.size + 1, 1, none⟩ = some (.bool false) := by rw [hn0]; exact new_cell2 _ _ _ _ _ _ (by simp) rfl
  have qf1 : Wn.frozen? ⟨w.heap.size + 1, 1, none⟩ = false := by rw [hn0]; exact new_loose2 _ _ _ _ _ (by simp)
  have q2 : Wn.cell? ⟨w.heap.size + 1, 2, none⟩ = some (.int .i64 0) := by rw [hn0]; exact new_cell2 _ _ _ _ _ _ (by simp) rfl
  have qf2 : Wn.frozen? ⟨w.heap.size + 1, 2, none⟩ = false := by rw [hn0]; exact new_loose2 _ _ _ _ _ (by simp)
  have q3 : Wn.cell? ⟨w.heap.size + 1, 3, none⟩ = some (.int .i64 0) := by rw [hn0]; exact new_cell2 _ _ _ _ _ _ (by simp) rfl
  have qf3 : Wn.frozen? ⟨w.heap.size + 1, 3, none⟩ = false := by rw [hn0]; exact new_loose2 _ _ _ _ _ (by simp)
  have s0 : Wn.heap.size = w.heap.size + 2 := by rw [hn0]; exact by simp
  subst hn0
  have K := hide (k0)
  clear k0
  have S0 := hide s0
  clear s0
  go_enter Tryd.func9, Tryd.ntmps9
  go_wp2_with fail
  generalize ((w.alloc (.cells #[.int .i64 3, .bool false, .int .i64 0, .int .i64 0] 24)).alloc (.cells #[.int .i64 0, .bool false, .int .i64 0, .int .i64 0] 24)) = W at *
  refine (flok_spec_k ho _).mono ?_
  rintro e w1 ⟨rfl, k1⟩
  replace qf0 := k1.loose0 (zbl q0) qf0
  replace qf1 := k1.loose0 (zbl q1) qf1
  replace qf2 := k1.loose0 (zbl q2) qf2
  replace qf3 := k1.loose0 (zbl q3) qf3
  replace p0 := k1.cell0 p0
  replace p1 := k1.cell0 p1
  replace p2 := k1.cell0 p2
  replace p3 := k1.cell0 p3
  replace q0 := k1.cell0 q0
  replace q1 := k1.cell0 q1
  replace q2 := k1.cell0 q2
  replace q3 := k1.cell0 q3
  replace K := hide ((unhide K).trans k1)
  have z2 := k1.size
  clear k1
  clear ho
  go_wp2_with fail
  have mm := mode_spec mode w1
  rw [hmB] at mm
  refine mm.mono ?_
  rintro e' wm5 ⟨rfl, rfl⟩
  clear mm hmB
  have KF := hide (((((unhide K).setNew (p := ⟨w.heap.size + 1, 0, none⟩) (by simp) (.int .i64 3)).setNew (p := ⟨w.heap.size + 1, 1, none⟩) (by simp) (.bool false)).setNew (p := ⟨w.heap.size + 1, 2, none⟩) (by simp) (.int .i64 0)).setNew (p := ⟨w.heap.size + 1, 3, none⟩) (by simp) (.int .i64 0))
  clear K
  try go_wp2_with fail
  exact bodyPost_ret (v := .tuple #[.agg #[.int .i64 3, .bool false, .int .i64 0, .int .i64 0], .int .i64 0]) (by simp [results, Tryd.results9, go_sem, q0, q1, q2, q3]) rfl ⟨by rw [unhide FQ], unhide KF⟩

set_option maxHeartbeats 4000000 in
theorem sqS_nought (n : Bool) (mode : Int) (hm0 : 0 ≤ mode) (hm4 : mode ≤ 4) (hmB : modeB mode = true) (ho : flok 0 n 0 0 = true) (w : World) :
    Calls Tryd.prog 9 #[flv 0 n 0 0, .int .i64 mode] w fun e' w' => e' = .returned (.tuple #[flq (sqQ 0 n 0 0 mode).1, .int .i64 (sqQ 0 n 0 0 mode).2]) ∧ Kept 0 0 w w' := by
  obtain ⟨Q, hQ⟩ : ∃ q, sqQ 0 n 0 0 mode = q := ⟨_, rfl⟩
  rw [hQ]
  have HQ := hide hQ
  clear hQ
  have FQ : Hid (Q = ((0, n, 0, 0), 0)) := by show _ = _; rw [← unhide HQ]; unfold sqQ; simp
  obtain ⟨Wn, hn0⟩ : ∃ wz, wz = ((w.alloc (.cells #[.int .i64 0, .bool n, .int .i64 0, .int .i64 0] 24)).alloc (.cells #[.int .i64 0, .bool false, .int .i64 0, .int .i64 0] 24)) := ⟨_, rfl⟩
  have k0 : Kept 0 0 w Wn := by rw [hn0]; exact (((Kept.refl 0 0 w).alloc _).alloc _)
  have p0 : Wn.cell? ⟨w.heap.size, 0, none⟩ = some (.int .i64 0) := by rw [hn0]; exact old_cell _ (new_cell2 _ _ _ _ _ _ (by simp) rfl)
  have p1 : Wn.cell? ⟨w.heap.size, 1, none⟩ = some (.bool n) := by rw [hn0]; exact old_cell _ (new_cell2 _ _ _ _ _ _ (by simp) rfl)
  have p2 : Wn.cell? ⟨w.heap.size, 2, none⟩ = some (.int .i64 0) := by rw [hn0]; exact old_cell _ (new_cell2 _ _ _ _ _ _ (by simp) rfl)
  have p3 : Wn.cell? ⟨w.heap.size, 3, none⟩ = some (.int .i64 0) := by rw [hn0]; exact old_cell _ (new_cell2 _ _ _ _ _ _ (by simp) rfl)
  have q0 : Wn.cell? ⟨w.heap.size + 1, 0, none⟩ = some (.int .i64 0) := by rw [hn0]; exact new_cell2 _ _ _ _ _ _ (by simp) rfl
  have qf0 : Wn.frozen? ⟨w.heap.size + 1, 0, none⟩ = false := by rw [hn0]; exact new_loose2 _ _ _ _ _ (by simp)
  have q1 : Wn.cell? ⟨w.heap.size + 1, 1, none⟩ = some (.bool false) := by rw [hn0]; exact new_cell2 _ _ _ _ _ _ (by simp) rfl
  have qf1 : Wn.frozen? ⟨w.heap.size + 1, 1, none⟩ = false := by rw [hn0]; exact new_loose2 _ _ _ _ _ (by simp)
  have q2 : Wn.cell? ⟨w.heap.size + 1, 2, none⟩ = some (.int .i64 0) := by rw [hn0]; exact new_cell2 _ _ _ _ _ _ (by simp) rfl
  have qf2 : Wn.frozen? ⟨w.heap.size + 1, 2, none⟩ = false := by rw [hn0]; exact new_loose2 _ _ _ _ _ (by simp)
  have q3 : Wn.cell? ⟨w.heap.size + 1, 3, none⟩ = some (.int .i64 0) := by rw [hn0]; exact new_cell2 _ _ _ _ _ _ (by simp) rfl
  have qf3 : Wn.frozen? ⟨w.heap.size + 1, 3, none⟩ = false := by rw [hn0]; exact new_loose2 _ _ _ _ _ (by simp)
  have s0 : Wn.heap.size = w.heap.size + 2 := by rw [hn0]; exact by simp
  subst hn0
  have K := hide (k0)
  clear k0
  have S0 := hide s0
  clear s0
  go_enter Tryd.func9, Tryd.ntmps9
  go_wp2_with fail
  generalize ((w.alloc (.cells #[.int .i64 0, .bool n, .int .i64 0, .int .i64 0] 24)).alloc (.cells #[.int .i64 0, .bool false, .int .i64 0, .int .i64 0] 24)) = W at *
  refine (flok_spec_k ho _).mono ?_
  rintro e w1 ⟨rfl, k1⟩
  replace qf0 := k1.loose0 (zbl q0) qf0
  replace qf1 := k1.loose0 (zbl q1) qf1
  replace qf2 := k1.loose0 (zbl q2) qf2
  replace qf3 := k1.loose0 (zbl q3) qf3
  replace p0 := k1.cell0 p0
  replace p1 := k1.cell0 p1
  replace p2 := k1.cell0 p2
  replace p3 := k1.cell0 p3
  replace q0 := k1.cell0 q0
  replace q1 := k1.cell0 q1
  replace q2 := k1.cell0 q2
  replace q3 := k1.cell0 q3
  replace K := hide ((unhide K).trans k1)
  have z2 := k1.size
  clear k1
  clear ho
  go_wp2_with fail
  have mm := mode_spec mode w1
  rw [hmB] at mm
  refine mm.mono ?_
  rintro e' wm5 ⟨rfl, rfl⟩
  clear mm hmB
  have KF := hide (((((unhide K).setNew (p := ⟨w.heap.size + 1, 0, none⟩) (by simp) (.int .i64 0)).setNew (p := ⟨w.heap.size + 1, 1, none⟩) (by simp) (.bool n)).setNew (p := ⟨w.heap.size + 1, 2, none⟩) (by simp) (.int .i64 0)).setNew (p := ⟨w.heap.size + 1, 3, none⟩) (by simp) (.int .i64 0))
  clear K
  try go_wp2_with fail
  exact bodyPost_ret (v := .tuple #[.agg #[.int .i64 0, .bool n, .int .i64 0, .int .i64 0], .int .i64 0]) (by simp [results, Tryd.results9, go_sem, q0, q1, q2, q3]) rfl ⟨by rw [unhide FQ], unhide KF⟩

set_option maxHeartbeats 4000000 in
theorem sqS_inf_true (mode : Int) (hm0 : 0 ≤ mode) (hm4 : mode ≤ 4) (hmB : modeB mode = true) (ho : flok 2 true 0 0 = true) (w : World) :
    Calls Tryd.prog 9 #[flv 2 true 0 0, .int .i64 mode] w fun e' w' => e' = .returned (.tuple #[flq (sqQ 2 true 0 0 mode).1, .int .i64 (sqQ 2 true 0 0 mode).2]) ∧ Kept 0 0 w w' := by
  obtain ⟨Q, hQ⟩ : ∃ q, sqQ 2 true 0 0 mode = q := ⟨_, rfl⟩
  rw [hQ]
  have HQ := hide hQ
  clear hQ
  have FQ : Hid (Q = ((3, false, 0, 0), 16)) := by show _ = _; rw [← unhide HQ]; unfold sqQ; simp
  obtain ⟨Wn, hn0⟩ : ∃ wz, wz = ((w.alloc (.cells #[.int .i64 2, .bool true, .int .i64 0, .int .i64 0] 24)).alloc (.cells #[.int .i64 0, .bool false, .int .i64 0, .int .i64 0] 24)) := ⟨_, rfl⟩
  have k0 : Kept 0 0 w Wn := by rw [hn0]; exact (((Kept.refl 0 0 w).alloc _).alloc _)
  have p0 : Wn.cell? ⟨w.heap.size, 0, none⟩ = some (.int .i64 2) := by rw [hn0]; exact old_cell _ (new_cell2 _ _ _ _ _ _ (by simp) rfl)
  have p1 : Wn.cell? ⟨w.heap.size, 1, none⟩ = some (.bool true) := by rw [hn0]; exact old_cell _ (new_cell2 _ _ _ _ _ _ (by simp) rfl)
  have p2 : Wn.cell? ⟨w.heap.size, 2, none⟩ = some (.int .i64 0) := by rw [hn0]; exact old_cell _ (new_cell2 _ _ _ _ _ _ (by simp) rfl)
  have p3 : Wn.cell? ⟨w.heap.size, 3, none⟩ = some (.int .i64 0) := by rw [hn0]; exact old_cell _ (new_cell2 _ _ _ _ _ _ (by simp) rfl)
  have q0 : Wn.cell? ⟨w.heap.size + 1, 0, none⟩ = some (.int .i64 0) := by rw [hn0]; exact new_cell2 _ _ _ _ _ _ (by simp) rfl
  have qf0 : Wn.frozen? ⟨w.heap.size + 1, 0, none⟩ = false := by rw [hn0]; exact new_loose2 _ _ _ _ _ (by simp)
  have q1 : Wn.cell? ⟨w.heap.size + 1, 1, none⟩ = some (.bool false) := by rw [hn0]; exact new_cell2 _ _ _ _ _ _ (by simp) rfl
  have qf1 : Wn.frozen? ⟨w.heap.size + 1, 1, none⟩ = false := by rw [hn0]; exact new_loose2 _ _ _ _ _ (by simp)
  have q2 : Wn.cell? ⟨w.heap.size + 1, 2, none⟩ = some (.int .i64 0) := by rw [hn0]; exact new_cell2 _ _ _ _ _ _ (by simp) rfl
  have qf2 : Wn.frozen? ⟨w.heap.size + 1, 2, none⟩ = false := by rw [hn0]; exact new_loose2 _ _ _ _ _ (by simp)
  have q3 : Wn.cell? ⟨w.heap.size + 1, 3, none⟩ = some (.int .i64 0) := by rw [hn0]; exact new_cell2 _ _ _ _ _ _ (by simp) rfl
  have qf3 : Wn.frozen? ⟨w.heap.size + 1, 3, none⟩ = false := by rw [hn0]; exact new_loose2 _ _ _ _ _ (by simp)
  have s0 : Wn.heap.size = w.heap.size + 2 := by rw [hn0]; exact by simp
  subst hn0
  have K := hide (k0)
  clear k0
  have S0 := hide s0
  clear s0
  go_enter Tryd.func9, Tryd.ntmps9
  go_wp2_with fail
  generalize ((w.alloc (.cells #[.int .i64 2, .bool true, .int .i64 0, .int .i64 0] 24)).alloc (.cells #[.int .i64 0, .bool false, .int .i64 0, .int .i64 0] 24)) = W at *
  refine (flok_spec_k ho _).mono ?_
  rintro e w1 ⟨rfl, k1⟩
  replace qf0 := k1.loose0 (zbl q0) qf0
  replace qf1 := k1.loose0 (zbl q1) qf1
  replace qf2 := k1.loose0 (zbl q2) qf2
  replace qf3 := k1.loose0 (zbl q3) qf3
  replace p0 := k1.cell0 p0
  replace p1 := k1.cell0 p1
  replace p2 := k1.cell0 p2
  replace p3 := k1.cell0 p3
  replace q0 := k1.cell0 q0
  replace q1 := k1.cell0 q1
  replace q2 := k1.cell0 q2
  replace q3 := k1.cell0 q3
  replace K := hide ((unhide K).trans k1)
  have z2 := k1.size
  clear k1
  clear ho
  go_wp2_with fail
  have mm := mode_spec mode w1
  rw [hmB] at mm
  refine mm.mono ?_
  rintro e' wm5 ⟨rfl, rfl⟩
  clear mm hmB
  go_wp2_with fail
  refine (bad_spec _).mono ?_
  rintro e w3 ⟨rfl, k3⟩
  replace qf0 := k3.loose0 (zbl q0) qf0
  replace qf1 := k3.loose0 (zbl q1) qf1
  replace qf2 := k3.loose0 (zbl q2) qf2
  replace qf3 := k3.loose0 (zbl q3) qf3
  replace p0 := k3.cell0 p0
  replace p1 := k3.cell0 p1
  replace p2 := k3.cell0 p2
  replace p3 := k3.cell0 p3
  replace q0 := k3.cell0 q0
  replace q1 := k3.cell0 q1
  replace q2 := k3.cell0 q2
  replace q3 := k3.cell0 q3
  replace K := hide ((unhide K).trans k3)
  have z4 := k3.size
  clear k3
  have KF := hide (((((unhide K).setNew (p := ⟨w.heap.size + 1, 0, none⟩) (by simp) (.int .i64 3)).setNew (p := ⟨w.heap.size + 1, 1, none⟩) (by simp) (.bool false)).setNew (p := ⟨w.heap.size + 1, 2, none⟩) (by simp) (.int .i64 0)).setNew (p := ⟨w.heap.size + 1, 3, none⟩) (by simp) (.int .i64 0))
  clear K
  try go_wp2_with fail
  exact bodyPost_ret (v := .tuple #[.agg #[.int .i64 3, .bool false, .int .i64 0, .int .i64 0], .int .i64 16]) (by simp [results, Tryd.results9, go_sem, q0, q1, q2, q3]) rfl ⟨by rw [unhide FQ], unhide KF⟩

set_option maxHeartbeats 4000000 in
theorem sqS_inf_false (mode : Int) (hm0 : 0 ≤ mode) (hm4 : mode ≤ 4) (hmB : modeB mode = true) (ho : flok 2 false 0 0 = true) (w : World) :
    Calls Tryd.prog 9 #[flv 2 false 0 0, .int .i64 mode] w fun e' w' => e' = .returned (.tuple #[flq (sqQ 2 false 0 0 mode).1, .int .i64 (sqQ 2 false 0 0 mode).2]) ∧ Kept 0 0 w w' := by
  obtain ⟨Q, hQ⟩ : ∃ q, sqQ 2 false 0 0 mode = q := ⟨_, rfl⟩
  rw [hQ]
  have HQ := hide hQ
  clear hQ
  have FQ : Hid (Q = ((2, false, 0, 0), 0)) := by show _ = _; rw [← unhide HQ]; unfold sqQ; simp
  obtain ⟨Wn, hn0⟩ : ∃ wz, wz = ((w.alloc (.cells #[.int .i64 2, .bool false, .int .i64 0, .int .i64 0] 24)).alloc (.cells #[.int .i64 0, .bool false, .int .i64 0, .int .i64 0] 24)) := ⟨_, rfl⟩
  have k0 : Kept 0 0 w Wn := by rw [hn0]; exact (((Kept.refl 0 0 w).alloc _).alloc _)
  have p0 : Wn.cell? ⟨w.heap.size, 0, none⟩ = some (.int .i64 2) := by rw [hn0]; exact old_cell _ (new_cell2 _ _ _ _ _ _ (by simp) rfl)
  have p1 : Wn.cell? ⟨w.heap.size, 1, none⟩ = some (.bool false) := by rw [hn0]; exact old_cell _ (new_cell2 _ _ _ _ _ _ (by simp) rfl)
  have p2 : Wn.cell? ⟨w.heap.size, 2, none⟩ = some (.int .i64 0) := by rw [hn0]; exact old_cell _ (new_cell2 _ _ _ _ _ _ (by simp) rfl)
  have p3 : Wn.cell? ⟨w.heap.size, 3, none⟩ = some (.int .i64 0) := by rw [hn0]; exact old_cell _ (new_cell2 _ _ _ _ _ _ (by simp) rfl)
  have q0 : Wn.cell? ⟨w.heap.size + 1, 0, none⟩ = some (.int .i64 0) := by rw [hn0]; exact new_cell2 _ _ _ _ _ _ (by simp) rfl
  have qf0 : Wn.frozen? ⟨w.heap.size + 1, 0, none⟩ = false := by rw [hn0]; exact new_loose2 _ _ _ _ _ (by simp)
  have q1 : Wn.cell? ⟨w.heap.size + 1, 1, none⟩ = some (.bool false) := by rw [hn0]; exact new_cell2 _ _ _ _ _ _ (by simp) rfl
  have qf1 : Wn.frozen? ⟨w.heap.size + 1, 1, none⟩ = false := by rw [hn0]; exact new_loose2 _ _ _ _ _ (by simp)
  have q2 : Wn.cell? ⟨w.heap.size + 1, 2, none⟩ = some (.int .i64 0) := by rw [hn0]; exact new_cell2 _ _ _ _ _ _ (by simp) rfl
  have qf2 : Wn.frozen? ⟨w.heap.size + 1, 2, none⟩ = false := by rw [hn0]; exact new_loose2 _ _ _ _ _ (by simp)
  have q3 : Wn.cell? ⟨w.heap.size + 1, 3, none⟩ = some (.int .i64 0) := by rw [hn0]; exact new_cell2 _ _ _ _ _ _ (by simp) rfl
  have qf3 : Wn.frozen? ⟨w.heap.size + 1, 3, none⟩ = false := by rw [hn0]; exact new_loose2 _ _ _ _ _ (by simp)
  have s0 : Wn.heap.size = w.heap.size + 2 := by rw [hn0]; exact by simp
  subst hn0
  have K := hide (k0)
  clear k0
  have S0 := hide s0
  clear s0
  go_enter Tryd.func9, Tryd.ntmps9
  go_wp2_with fail
  generalize ((w.alloc (.cells #[.int .i64 2, .bool false, .int .i64 0, .int .i64 0] 24)).alloc (.cells #[.int .i64 0, .bool false, .int .i64 0, .int .i64 0] 24)) = W at *
  refine (flok_spec_k ho _).mono ?_
  rintro e w1 ⟨rfl, k1⟩
  replace qf0 := k1.loose0 (zbl q0) qf0
  replace qf1 := k1.loose0 (zbl q1) qf1
  replace qf2 := k1.loose0 (zbl q2) qf2
  replace qf3 := k1.loose0 (zbl q3) qf3
  replace p0 := k1.cell0 p0
  replace p1 := k1.cell0 p1
  replace p2 := k1.cell0 p2
  replace p3 := k1.cell0 p3
  replace q0 := k1.cell0 q0
  replace q1 := k1.cell0 q1
  replace q2 := k1.cell0 q2
  replace q3 := k1.cell0 q3
  replace K := hide ((unhide K).trans k1)
  have z2 := k1.size
  clear k1
  clear ho
  go_wp2_with fail
  have mm := mode_spec mode w1
  rw [hmB] at mm
  refine mm.mono ?_
  rintro e' wm5 ⟨rfl, rfl⟩
  clear mm hmB
  have KF := hide (((((unhide K).setNew (p := ⟨w.heap.size + 1, 0, none⟩) (by simp) (.int .i64 2)).setNew (p := ⟨w.heap.size + 1, 1, none⟩) (by simp) (.bool false)).setNew (p := ⟨w.heap.size + 1, 2, none⟩) (by simp) (.int .i64 0)).setNew (p := ⟨w.heap.size + 1, 3, none⟩) (by simp) (.int .i64 0))
  clear K
  try go_wp2_with fail
  exact bodyPost_ret (v := .tuple #[.agg #[.int .i64 2, .bool false, .int .i64 0, .int .i64 0], .int .i64 0]) (by simp [results, Tryd.results9, go_sem, q0, q1, q2, q3]) rfl ⟨by rw [unhide FQ], unhide KF⟩

set_option maxHeartbeats 4000000 in
theorem sqS_num_true (m e : Int) (a1 : -1074 ≤ e) (a2 : e ≤ 971) (a3 : 1 ≤ m) (a4 : m ≤ 9007199254740991) (mode : Int) (hm0 : 0 ≤ mode) (hm4 : mode ≤ 4) (hmB : modeB mode = true) (ho : flok 1 true m e = true) (w : World) :
    Calls Tryd.prog 9 #[flv 1 true m e, .int .i64 mode] w fun e' w' => e' = .returned (.tuple #[flq (sqQ 1 true m e mode).1, .int .i64 (sqQ 1 true m e mode).2]) ∧ Kept 0 0 w w' := by
  obtain ⟨Q, hQ⟩ : ∃ q, sqQ 1 true m e mode = q := ⟨_, rfl⟩
  rw [hQ]
  have HQ := hide hQ
  clear hQ
  have FQ : Hid (Q = ((3, false, 0, 0), 16)) := by show _ = _; rw [← unhide HQ]; unfold sqQ; simp
  obtain ⟨Wn, hn0⟩ : ∃ wz, wz = ((w.alloc (.cells #[.int .i64 1, .bool true, .int .i64 m, .int .i64 e] 24)).alloc (.cells #[.int .i64 0, .bool false, .int .i64 0, .int .i64 0] 24)) := ⟨_, rfl⟩
  have k0 : Kept 0 0 w Wn := by rw [hn0]; exact (((Kept.refl 0 0 w).alloc _).alloc _)
  have p0 : Wn.cell? ⟨w.heap.size, 0, none⟩ = some (.int .i64 1) := by rw [hn0]; exact old_cell _ (new_cell2 _ _ _ _ _ _ (by simp) rfl)
  have p1 : Wn.cell? ⟨w.heap.size, 1, none⟩ = some (.bool true) := by rw [hn0]; exact old_cell _ (new_cell2 _ _ _ _ _ _ (by simp) rfl)
  have p2 : Wn.cell? ⟨w.heap.size, 2, none⟩ = some (.int .i64 m) := by rw [hn0]; exact old_cell _ (new_cell2 _ _ _ _ _ _ (by simp) rfl)
  have p3 : Wn.cell? ⟨w.heap.size, 3, none⟩ = some (.int .i64 e) := by rw [hn0]; exact old_cell _ (new_cell2 _ _ _ _ _ _ (by simp) rfl)
  have q0 : Wn.cell? ⟨w.heap.size + 1, 0, none⟩ = some (.int .i64 0) := by rw [hn0]; exact new_cell2 _ _ _ _ _ _ (by simp) rfl
  have qf0 : Wn.frozen? ⟨w.heap.size + 1, 0, none⟩ = false := by rw [hn0]; exact new_loose2 _ _ _ _ _ (by simp)
  have q1 : Wn.cell? ⟨w.heap.size + 1, 1, none⟩ = some (.bool false) := by rw [hn0]; exact new_cell2 _ _ _ _ _ _ (by simp) rfl
  have qf1 : Wn.frozen? ⟨w.heap.size + 1, 1, none⟩ = false := by rw [hn0]; exact new_loose2 _ _ _ _ _ (by simp)
  have q2 : Wn.cell? ⟨w.heap.size + 1, 2, none⟩ = some (.int .i64 0) := by rw [hn0]; exact new_cell2 _ _ _ _ _ _ (by simp) rfl
  have qf2 : Wn.frozen? ⟨w.heap.size + 1, 2, none⟩ = false := by rw [hn0]; exact new_loose2 _ _ _ _ _ (by simp)
  have q3 : Wn.cell? ⟨w.heap.size + 1, 3, none⟩ = some (.int .i64 0) := by rw [hn0]; exact new_cell2 _ _ _ _ _ _ (by simp) rfl
  have qf3 : Wn.frozen? ⟨w.heap.size + 1, 3, none⟩ = false := by rw [hn0]; exact new_loose2 _ _ _ _ _ (by simp)
  have s0 : Wn.heap.size = w.heap.size + 2 := by rw [hn0]; exact by simp
  subst hn0
  have K := hide (k0)
  clear k0
  have S0 := hide s0
  clear s0
  go_enter Tryd.func9, Tryd.ntmps9
  go_wp2_with fail
  generalize ((w.alloc (.cells #[.int .i64 1, .bool true, .int .i64 m, .int .i64 e] 24)).alloc (.cells #[.int .i64 0, .bool false, .int .i64 0, .int .i64 0] 24)) = W at *
  refine (flok_spec_k ho _).mono ?_
  rintro e w1 ⟨rfl, k1⟩
  replace qf0 := k1.loose0 (zbl q0) qf0
  replace qf1 := k1.loose0 (zbl q1) qf1
  replace qf2 := k1.loose0 (zbl q2) qf2
  replace qf3 := k1.loose0 (zbl q3) qf3
  replace p0 := k1.cell0 p0
  replace p1 := k1.cell0 p1
  replace p2 := k1.cell0 p2
  replace p3 := k1.cell0 p3
  replace q0 := k1.cell0 q0
  replace q1 := k1.cell0 q1
  replace q2 := k1.cell0 q2
  replace q3 := k1.cell0 q3
  replace K := hide ((unhide K).trans k1)
  have z2 := k1.size
  clear k1
  clear ho
  go_wp2_with fail
  have mm := mode_spec mode w1
  rw [hmB] at mm
  refine mm.mono ?_
  rintro e' wm5 ⟨rfl, rfl⟩
  clear mm hmB
  go_wp2_with fail
  refine (bad_spec _).mono ?_
  rintro e w3 ⟨rfl, k3⟩
  replace qf0 := k3.loose0 (zbl q0) qf0
  replace qf1 := k3.loose0 (zbl q1) qf1
  replace qf2 := k3.loose0 (zbl q2) qf2
  replace qf3 := k3.loose0 (zbl q3) qf3
  replace p0 := k3.cell0 p0
  replace p1 := k3.cell0 p1
  replace p2 := k3.cell0 p2
  replace p3 := k3.cell0 p3
  replace q0 := k3.cell0 q0
  replace q1 := k3.cell0 q1
  replace q2 := k3.cell0 q2
  replace q3 := k3.cell0 q3
  replace K := hide ((unhide K).trans k3)
  have z4 := k3.size
  clear k3
  have KF := hide (((((unhide K).setNew (p := ⟨w.heap.size + 1, 0, none⟩) (by simp) (.int .i64 3)).setNew (p := ⟨w.heap.size + 1, 1, none⟩) (by simp) (.bool false)).setNew (p := ⟨w.heap.size + 1, 2, none⟩) (by simp) (.int .i64 0)).setNew (p := ⟨w.heap.size + 1, 3, none⟩) (by simp) (.int .i64 0))
  clear K
  try go_wp2_with fail
  exact bodyPost_ret (v := .tuple #[.agg #[.int .i64 3, .bool false, .int .i64 0, .int .i64 0], .int .i64 16]) (by simp [results, Tryd.results9, go_sem, q0, q1, q2, q3]) rfl ⟨by rw [unhide FQ], unhide KF⟩

set_option maxHeartbeats 4000000 in
theorem sqS_num_false (m e : Int) (a1 : -1074 ≤ e) (a2 : e ≤ 971) (a3 : 1 ≤ m) (a4 : m ≤ 9007199254740991) (mode : Int) (hm0 : 0 ≤ mode) (hm4 : mode ≤ 4) (hmB : modeB mode = true) (ho : flok 1 false m e = true) (w : World) :
    Calls Tryd.prog 9 #[flv 1 false m e, .int .i64 mode] w fun e' w' => e' = .returned (.tuple #[flq (sqQ 1 false m e mode).1, .int .i64 (sqQ 1 false m e mode).2]) ∧ Kept 0 0 w w' := by
  obtain ⟨Q, hQ⟩ : ∃ q, sqQ 1 false m e mode = q := ⟨_, rfl⟩
  rw [hQ]
  have HQ := hide hQ
  clear hQ
  obtain ⟨Wn, hn0⟩ : ∃ wz, wz = ((w.alloc (.cells #[.int .i64 1, .bool false, .int .i64 m, .int .i64 e] 24)).alloc (.cells #[.int .i64 0, .bool false, .int .i64 0, .int .i64 0] 24)) := ⟨_, rfl⟩
  have k0 : Kept 0 0 w Wn := by rw [hn0]; exact (((Kept.refl 0 0 w).alloc _).alloc _)
  have p0 : Wn.cell? ⟨w.heap.size, 0, none⟩ = some (.int .i64 1) := by rw [hn0]; exact old_cell _ (new_cell2 _ _ _ _ _ _ (by simp) rfl)
  have p1 : Wn.cell? ⟨w.heap.size, 1, none⟩ = some (.bool false) := by rw [hn0]; exact old_cell _ (new_cell2 _ _ _ _ _ _ (by simp) rfl)
  have p2 : Wn.cell? ⟨w.heap.size, 2, none⟩ = some (.int .i64 m) := by rw [hn0]; exact old_cell _ (new_cell2 _ _ _ _ _ _ (by simp) rfl)
  have p3 : Wn.cell? ⟨w.heap.size, 3, none⟩ = some (.int .i64 e) := by rw [hn0]; exact old_cell _ (new_cell2 _ _ _ _ _ _ (by simp) rfl)
  have q0 : Wn.cell? ⟨w.heap.size + 1, 0, none⟩ = some (.int .i64 0) := by rw [hn0]; exact new_cell2 _ _ _ _ _ _ (by simp) rfl
  have qf0 : Wn.frozen? ⟨w.heap.size + 1, 0, none⟩ = false := by rw [hn0]; exact new_loose2 _ _ _ _ _ (by simp)
  have q1 : Wn.cell? ⟨w.heap.size + 1, 1, none⟩ = some (.bool false) := by rw [hn0]; exact new_cell2 _ _ _ _ _ _ (by simp) rfl
  have qf1 : Wn.frozen? ⟨w.heap.size + 1, 1, none⟩ = false := by rw [hn0]; exact new_loose2 _ _ _ _ _ (by simp)
  have q2 : Wn.cell? ⟨w.heap.size + 1, 2, none⟩ = some (.int .i64 0) := by rw [hn0]; exact new_cell2 _ _ _ _ _ _ (by simp) rfl
  have qf2 : Wn.frozen? ⟨w.heap.size + 1, 2, none⟩ = false := by rw [hn0]; exact new_loose2 _ _ _ _ _ (by simp)
  have q3 : Wn.cell? ⟨w.heap.size + 1, 3, none⟩ = some (.int .i64 0) := by rw [hn0]; exact new_cell2 _ _ _ _ _ _ (by simp) rfl
  have qf3 : Wn.frozen? ⟨w.heap.size + 1, 3, none⟩ = false := by rw [hn0]; exact new_loose2 _ _ _ _ _ (by simp)
  have s0 : Wn.heap.size = w.heap.size + 2 := by rw [hn0]; exact by simp
  subst hn0
  have K := hide (k0)
  clear k0
  have S0 := hide s0
  clear s0
  go_enter Tryd.func9, Tryd.ntmps9
  go_wp2_with fail
  generalize ((w.alloc (.cells #[.int .i64 1, .bool false, .int .i64 m, .int .i64 e] 24)).alloc (.cells #[.int .i64 0, .bool false, .int .i64 0, .int .i64 0] 24)) = W at *
  refine (flok_spec_k ho _).mono ?_
  rintro e w1 ⟨rfl, k1⟩
  replace qf0 := k1.loose0 (zbl q0) qf0
  replace qf1 := k1.loose0 (zbl q1) qf1
  replace qf2 := k1.loose0 (zbl q2) qf2
  replace qf3 := k1.loose0 (zbl q3) qf3
  replace p0 := k1.cell0 p0
  replace p1 := k1.cell0 p1
  replace p2 := k1.cell0 p2
  replace p3 := k1.cell0 p3
  replace q0 := k1.cell0 q0
  replace q1 := k1.cell0 q1
  replace q2 := k1.cell0 q2
  replace q3 := k1.cell0 q3
  replace K := hide ((unhide K).trans k1)
  have z2 := k1.size
  clear k1
  clear ho
  go_wp2_with fail
  have mm := mode_spec mode w1
  rw [hmB] at mm
  refine mm.mono ?_
  rintro e' wm5 ⟨rfl, rfl⟩
  clear mm hmB
  go_wp2_with fail
  have ab1 : (fM 1 false m).natAbs < 2 ^ 64 := fM_abs _ _ (by omega) (by omega)
  have ok1 := dok_fl (fM 1 false m) e ab1 (by omega) (by omega)
  have mk := dy5_num false m e a1 a2 a3 a4 wm5
  have hn1 : Nrm (dlm (fM 1 false m)) := limbs_nrm _
  have hz1' : (dlm (fM 1 false m)).length ≠ 0 := by
   have h := (dlm_pos (show fM 1 false m ≠ 0 by rw [fM_pos a3]; omega)).1
   omega
  have rT := sq_top_range a1 a2 a3 a4
  obtain ⟨TT, hTT⟩ : ∃ y, topI (dlm (fM 1 false m)) (dex (fM 1 false m) e) = y := ⟨_, rfl⟩
  have hTe : topI (limbs m.toNat) e = TT := by
   rw [← hTT]
   exact (top_odd a3 e).symm
  rw [hTe] at rT
  obtain ⟨TH, hTH⟩ : ∃ y, TT.tdiv 2 = y := ⟨_, rfl⟩
  have hh := half_of TT
  rw [hTH] at hh
  have hw1 : IntKind.i64.wrap TH = TH := w64 _ (by omega) (by omega)
  have hw2 : IntKind.i64.wrap (TH - 53) = TH - 53 := w64 _ (by omega) (by omega)
  obtain ⟨LW, hLW⟩ : ∃ y, TH - 53 - 4 = y := ⟨_, rfl⟩
  have hw3 : IntKind.i64.wrap (TH - 53 - 4) = LW := by rw [w64 _ (by omega) (by omega), hLW]
  obtain ⟨QV, hQV⟩ : ∃ y, rtQ (val (dlm (fM 1 false m))).toNat (dex (fM 1 false m) e - 2 * (LW - 1) + 2) = y := ⟨_, rfl⟩
  obtain ⟨j0, j1, j2⟩ := sq_fin mode (e := e) a3 LW (by rw [hTT, hTH, hLW]) QV hQV.symm
  have hxb : dex (fM 1 false m) e = e + (tz m.toNat : Int) ∧ tz m.toNat ≤ 53 := by
   have hm0 : m ≠ 0 := by omega
   have hab : m.natAbs = m.toNat := by omega
   have hb : m.toNat < 2 ^ 53 := by omega
   have := tz_lt (n := m.toNat) (by omega) hb
   refine ⟨?_, by omega⟩
   rw [fM_pos a3]
   unfold dex
   rw [if_neg hm0, hab]
  obtain ⟨s1, hs1⟩ : ∃ y, wsg (fM 1 false m) = y := ⟨_, rfl⟩
  obtain ⟨z1, hz1⟩ : ∃ y, dlm (fM 1 false m) = y := ⟨_, rfl⟩
  obtain ⟨x1, hx1⟩ : ∃ y, dex (fM 1 false m) e = y := ⟨_, rfl⟩
  have hlz : z1.length ≤ 4 := by
   rw [← hz1]
   refine Nat.le_trans (dlm_len (M := fM 1 false m) rfl) ((limbs_length_le _ _).2 ?_)
   rw [show (65536 : Int) ^ 4 = 18446744073709551616 by decide]
   have h9 : (fM 1 false m).natAbs < 18446744073709551616 := ab1
   omega
  rw [hs1, hz1, hx1] at ok1 mk
  rw [hz1] at hn1 hz1'
  rw [hx1] at hxb
  replace hxb : -1074 ≤ x1 ∧ x1 ≤ 1024 := by omega
  rw [hz1, hx1] at hTT hQV
  obtain ⟨MQ, hMQ⟩ : ∃ y, wval false (limbs QV) = y := ⟨_, rfl⟩
  rw [hMQ] at j1 j2
  have hsM : wsg MQ = false := by rw [← hMQ]; exact wsg_std QV
  rw [← hsM] at j1 j2
  have lQV : (limbs QV).length ≤ 1000 := by
   have h0 := scN_len hn1.1 (x1 - 2 * (LW - 1) + 2) 600 (by omega)
   have h1 := limbs_len_le (rootN_le (scN (val z1).toNat (x1 - 2 * (LW - 1) + 2)))
   have h2 : QV ≤ rootN (scN (val z1).toNat (x1 - 2 * (LW - 1) + 2)) * 2 + 1 := by rw [← hQV]; unfold rtQ rtN; split <;> omega
   have h3 := limbs_len_le h2
   have h4 := limbs_succ_len (limbs (rootN (scN (val z1).toNat (x1 - 2 * (LW - 1) + 2)) * 2)) (limbs_nrm _)
   rw [limbs_val, Int.toNat_natCast] at h4
   have h5 := shl1_len (rootN (scN (val z1).toNat (x1 - 2 * (LW - 1) + 2))) h1
   omega
  have hMa : MQ.natAbs = QV := by rw [← hMQ, wval_abs (limbs_lim QV), limbs_val, Int.toNat_natCast]
  obtain ⟨NN, hNN⟩ : ∃ n : Nat, n = 1000 := ⟨_, rfl⟩
  have hdM : -20000 ≤ dex MQ (LW - 3) ∧ dex MQ (LW - 3) ≤ 20000 := by
   rw [← hNN] at lQV
   have b4 : QV < 2 ^ (16 * NN) := (limbs_len_two _ _).1 lQV
   have ht := tz_lt j0 b4
   unfold dex
   split
   ·omega
   ·rw [hMa]; omega
  have hlM : (dlm MQ).length ≤ 5000 := by
   have h1 := dlm_len (M := MQ) rfl
   rw [hMa] at h1
   omega
  clear hNN
  have mq := fun (w : World) {v : Value} {lo hi : Nat} (r : Row .i64 true lo hi w v z1) => l4sqrt_spec s1 x1 LW (by omega) (by omega) (by omega) w r ok1 hz1'
  simp only [hQV, hMQ] at mq
  have HMQ := hide mq
  clear mq hMQ hQV
  obtain ⟨A, hA⟩ : ∃ y, flA mode (wsg MQ) (val (dlm MQ)).toNat (dex MQ (LW - 3)) = y := ⟨_, rfl⟩
  obtain ⟨GG, hGG⟩ : ∃ y, flG mode (wsg MQ) (val (dlm MQ)).toNat (dex MQ (LW - 3)) = y := ⟨_, rfl⟩
  have FQ : Hid (Q = ((A.1, false, A.2.1, A.2.2), GG)) := by
   show _ = _
   rw [← unhide HQ, ← hA, ← hGG, j1, j2]
   unfold sqQ
   rw [hsM]
   simp
  have hif : (if (val (dlm MQ)).toNat = 0 then false else wsg MQ) = false := by rw [hsM]; split <;> rfl
  have HA := hide hA
  have HGG := hide hGG
  have HJ := hide hif
  have HT := hide hTT
  clear hA hGG hif j0 j1 j2 hTT hs1 hz1 hx1 ab1 hsM hMa hTe hLW lQV
  refine (mk).mono ?_
  rintro e w3 ⟨v1, rfl, r1, k3⟩
  replace qf0 := k3.loose0 (zbl q0) qf0
  replace qf1 := k3.loose0 (zbl q1) qf1
  replace qf2 := k3.loose0 (zbl q2) qf2
  replace qf3 := k3.loose0 (zbl q3) qf3
  replace p0 := k3.cell0 p0
  replace p1 := k3.cell0 p1
  replace p2 := k3.cell0 p2
  replace p3 := k3.cell0 p3
  replace q0 := k3.cell0 q0
  replace q1 := k3.cell0 q1
  replace q2 := k3.cell0 q2
  replace q3 := k3.cell0 q3
  replace K := hide ((unhide K).trans k3)
  have z4 := k3.size
  clear k3
  clear mk
  obtain ⟨p1', c1', hv⟩ := Row.form' r1
  subst hv
  have kn := (Kept.refl 0 0 w3).alloc (.cells #[.bool s1, .slice p1' z1.length c1', .int .i64 x1] 41)
  have t0 : (w3.alloc (.cells #[.bool s1, .slice p1' z1.length c1', .int .i64 x1] 41)).cell? ⟨w3.heap.size, 0, none⟩ = some (.bool s1) := new_cell2 _ _ _ _ _ _ (by simp) rfl
  have t1 : (w3.alloc (.cells #[.bool s1, .slice p1' z1.length c1', .int .i64 x1] 41)).cell? ⟨w3.heap.size, 1, none⟩ = some (.slice p1' z1.length c1') := new_cell2 _ _ _ _ _ _ (by simp) rfl
  have t2 : (w3.alloc (.cells #[.bool s1, .slice p1' z1.length c1', .int .i64 x1] 41)).cell? ⟨w3.heap.size, 2, none⟩ = some (.int .i64 x1) := new_cell2 _ _ _ _ _ _ (by simp) rfl
  have sz5 : w3.heap.size + 1 ≤ (w3.alloc (.cells #[.bool s1, .slice p1' z1.length c1', .int .i64 x1] 41)).heap.size := by simp
  replace r1 := r1.kp kn
  replace qf0 := kn.loose0 (zbl q0) qf0
  replace qf1 := kn.loose0 (zbl q1) qf1
  replace qf2 := kn.loose0 (zbl q2) qf2
  replace qf3 := kn.loose0 (zbl q3) qf3
  replace p0 := kn.cell0 p0
  replace p1 := kn.cell0 p1
  replace p2 := kn.cell0 p2
  replace p3 := kn.cell0 p3
  replace q0 := kn.cell0 q0
  replace q1 := kn.cell0 q1
  replace q2 := kn.cell0 q2
  replace q3 := kn.cell0 q3
  replace K := hide ((unhide K).trans kn)
  have z6 := kn.size
  clear kn
  go_wp2_with fail
  generalize (w3.alloc (.cells #[.bool s1, .slice p1' z1.length c1', .int .i64 x1] 41)) = wn7 at *
  skip
  have n_qf0 := qf0
  have n_q0 := q0
  have n_qf1 := qf1
  have n_q1 := q1
  have n_qf2 := qf2
  have n_q2 := q2
  have n_qf3 := qf3
  have n_q3 := q3
  have kd := (Kept.refl 0 0 wn7).drew
  replace r1 := r1.kp kd
  replace qf0 := kd.loose0 (zbl q0) qf0
  replace qf1 := kd.loose0 (zbl q1) qf1
  replace qf2 := kd.loose0 (zbl q2) qf2
  replace qf3 := kd.loose0 (zbl q3) qf3
  replace p0 := kd.cell0 p0
  replace p1 := kd.cell0 p1
  replace p2 := kd.cell0 p2
  replace p3 := kd.cell0 p3
  replace q0 := kd.cell0 q0
  replace q1 := kd.cell0 q1
  replace q2 := kd.cell0 q2
  replace q3 := kd.cell0 q3
  replace t0 := kd.cell0 t0
  replace t1 := kd.cell0 t1
  replace t2 := kd.cell0 t2
  replace K := hide ((unhide K).trans kd)
  have z8 := kd.size
  clear kd
  refine wp_region_held_drew (S := (fun w' => w'.cell? ⟨w3.heap.size, 0, none⟩ = some (.bool s1) ∧ w'.cell? ⟨w3.heap.size, 1, none⟩ = some (.slice p1' z1.length c1') ∧ w'.cell? ⟨w3.heap.size, 2, none⟩ = some (.int .i64 x1))) (by kernel_rfl) ?_ (fun hH => ?_)
  ·exact ⟨t0, t1, t2⟩
  refine wpAnyH_take (i := 0) (v := .agg #[.bool s1, .slice p1' z1.length c1', .int .i64 x1]) rfl (by kernel_rfl) (by kernel_rfl) (by kernel_rfl) (fun _ _ _ h => h) (Or.inl ⟨by rfl, ?_⟩) hH ?_
  ·intro wq hSw
   try dsimp only at hSw
   go_simp
  try simp only [Act.put, zq1, zq2, zq3, zq4, zq5, zq6]
  refine wpAnyH_take (i := 1) (v := .agg #[.bool s1, .slice p1' z1.length c1', .int .i64 x1]) rfl (by kernel_rfl) (by kernel_rfl) (by kernel_rfl) (fun _ _ _ h => h) (Or.inl ⟨by rfl, ?_⟩) hH ?_
  ·intro wq hSw
   try dsimp only at hSw
   go_simp
  try simp only [Act.put, zq1, zq2, zq3, zq4, zq5, zq6]
  refine wpAnyH_take (i := 7) (v := .int .i64 mode) rfl (by kernel_rfl) (by kernel_rfl) (by kernel_rfl) (fun _ _ _ h => h) (Or.inl ⟨by rfl, ?_⟩) hH ?_
  ·intro wq hSw
   try dsimp only at hSw
   go_simp
  try simp only [Act.put, zq1, zq2, zq3, zq4, zq5, zq6]
  refine wpAnyH_ready (rs := [2]) (by kernel_rfl) (by simp) ?_
  refine AllReadyH.cons rfl (fun KK hK => ?_) AllReadyH.nil
  simp only [zq1, zq2, zq3]
  rw [if_pos (by rfl)]
  refine wps1 15 (.tmp 42) _ rfl in_l4top_s (.agg #[.bool s1, .slice p1' z1.length c1', .int .i64 x1]) rfl (Calls.mono (top4_spec s1 x1 (by omega) (by omega) _ r1 hn1 (by omega)) (fun e w' h => (show e = .returned (.int .i64 TT) ∧ Kept 0 0 _ w' from ⟨by rw [h.1, unhide HT], h.2⟩))) ?_
  rintro e w9 ⟨rfl, k9⟩
  refine ⟨_, rfl, ?_⟩
  replace r1 := r1.kp k9
  replace qf0 := k9.loose0 (zbl q0) qf0
  replace qf1 := k9.loose0 (zbl q1) qf1
  replace qf2 := k9.loose0 (zbl q2) qf2
  replace qf3 := k9.loose0 (zbl q3) qf3
  replace p0 := k9.cell0 p0
  replace p1 := k9.cell0 p1
  replace p2 := k9.cell0 p2
  replace p3 := k9.cell0 p3
  replace q0 := k9.cell0 q0
  replace q1 := k9.cell0 q1
  replace q2 := k9.cell0 q2
  replace q3 := k9.cell0 q3
  replace t0 := k9.cell0 t0
  replace t1 := k9.cell0 t1
  replace t2 := k9.cell0 t2
  replace K := hide ((unhide K).trans k9)
  have z10 := k9.size
  clear k9
  clear hH
  refine hK.out _ _ ?_ (fun hH => ?_)
  ·exact ⟨t0, t1, t2⟩
  clear hK KK
  try simp only [Act.put, zq1, zq2, zq3, zq4, zq5, zq6]
  refine wpAnyH_take (i := 3) (v := .int .i64 TH) rfl (by kernel_rfl) (by kernel_rfl) (by kernel_rfl) (fun _ _ _ h => h) (Or.inl ⟨by rfl, ?_⟩) hH ?_
  ·intro wq hSw
   try dsimp only at hSw
   go_simp
  try simp only [Act.put, zq1, zq2, zq3, zq4, zq5, zq6]
  refine wpAnyH_take (i := 4) (v := .int .i64 (TH - 53)) rfl (by kernel_rfl) (by kernel_rfl) (by kernel_rfl) (fun _ _ _ h => h) (Or.inl ⟨by rfl, ?_⟩) hH ?_
  ·intro wq hSw
   try dsimp only at hSw
   go_simp
  try simp only [Act.put, zq1, zq2, zq3, zq4, zq5, zq6]
  refine wpAnyH_take (i := 5) (v := .int .i64 LW) rfl (by kernel_rfl) (by kernel_rfl) (by kernel_rfl) (fun _ _ _ h => h) (Or.inl ⟨by rfl, ?_⟩) hH ?_
  ·intro wq hSw
   try dsimp only at hSw
   go_simp
  try simp only [Act.put, zq1, zq2, zq3, zq4, zq5, zq6]
  refine wpAnyH_ready (rs := [6]) (by kernel_rfl) (by simp) ?_
  refine AllReadyH.cons rfl (fun KK hK => ?_) AllReadyH.nil
  simp only [zq1, zq2, zq3]
  rw [if_pos (by rfl)]
  refine wps2 25 (.tmp 41) (.tmp 46) _ rfl in_l4sqrt_s (.agg #[.bool s1, .slice p1' z1.length c1', .int .i64 x1]) (.int .i64 LW) rfl rfl (unhide HMQ _ r1) ?_
  rintro e w11 ⟨v3, rfl, r3, k11⟩
  refine ⟨_, rfl, ?_⟩
  replace r1 := r1.kp k11
  replace qf0 := k11.loose0 (zbl q0) qf0
  replace qf1 := k11.loose0 (zbl q1) qf1
  replace qf2 := k11.loose0 (zbl q2) qf2
  replace qf3 := k11.loose0 (zbl q3) qf3
  replace p0 := k11.cell0 p0
  replace p1 := k11.cell0 p1
  replace p2 := k11.cell0 p2
  replace p3 := k11.cell0 p3
  replace q0 := k11.cell0 q0
  replace q1 := k11.cell0 q1
  replace q2 := k11.cell0 q2
  replace q3 := k11.cell0 q3
  replace t0 := k11.cell0 t0
  replace t1 := k11.cell0 t1
  replace t2 := k11.cell0 t2
  replace K := hide ((unhide K).trans k11)
  have z12 := k11.size
  clear k11
  clear hH
  refine hK.out _ _ ?_ (fun hH => ?_)
  ·exact ⟨t0, t1, t2⟩
  clear hK KK
  try simp only [Act.put, zq1, zq2, zq3, zq4, zq5, zq6]
  refine wpAnyH_ready (rs := [8]) (by kernel_rfl) (by simp) ?_
  refine AllReadyH.cons rfl (fun KK hK => ?_) AllReadyH.nil
  simp only [zq1, zq2, zq3]
  rw [if_pos (by rfl)]
  refine wps3 16 (.tmp 47) (.tmp 48) (.const (.bool false)) _ rfl in_l5round_s (.agg #[.bool (wsg MQ), v3, .int .i64 (dex MQ (LW - 3))]) (.int .i64 mode) (.bool false) rfl rfl rfl (l5round_spec (wsg MQ) (dex MQ (LW - 3)) (by omega) (by omega) _ r3 (wn_dlm MQ) (odd_dlm MQ) (dex_nil MQ (LW - 3)) (by omega) mode hm0 hm4 false) ?_
  rintro e w13 ⟨rfl, k13⟩
  refine ⟨_, rfl, ?_⟩
  replace r1 := r1.kp k13
  replace r3 := r3.kp k13
  replace qf0 := k13.loose0 (zbl q0) qf0
  replace qf1 := k13.loose0 (zbl q1) qf1
  replace qf2 := k13.loose0 (zbl q2) qf2
  replace qf3 := k13.loose0 (zbl q3) qf3
  replace p0 := k13.cell0 p0
  replace p1 := k13.cell0 p1
  replace p2 := k13.cell0 p2
  replace p3 := k13.cell0 p3
  replace q0 := k13.cell0 q0
  replace q1 := k13.cell0 q1
  replace q2 := k13.cell0 q2
  replace q3 := k13.cell0 q3
  replace t0 := k13.cell0 t0
  replace t1 := k13.cell0 t1
  replace t2 := k13.cell0 t2
  replace K := hide ((unhide K).trans k13)
  have z14 := k13.size
  clear k13
  clear hH
  refine hK.out _ _ ?_ (fun hH => ?_)
  ·exact ⟨t0, t1, t2⟩
  clear hK KK
  try simp only [Act.put, zq1, zq2, zq3, zq4, zq5, zq6]
  rw [unhide HA, unhide HGG, unhide HJ]
  refine wpAnyH_take (i := 9) (v := .agg #[.int .i64 A.1, .bool false, .int .i64 A.2.1, .int .i64 A.2.2]) rfl (by kernel_rfl) (by kernel_rfl) (by kernel_rfl) (fun _ _ _ h => h) (Or.inl ⟨by rfl, ?_⟩) hH ?_
  ·intro wq hSw
   try dsimp only at hSw
   go_simp
  try simp only [Act.put, zq1, zq2, zq3, zq4, zq5, zq6]
  refine wpAnyH_take (i := 10) (v := .int .i64 GG) rfl (by kernel_rfl) (by kernel_rfl) (by kernel_rfl) (fun _ _ _ h => h) (Or.inl ⟨by rfl, ?_⟩) hH ?_
  ·intro wq hSw
   try dsimp only at hSw
   go_simp
  try simp only [Act.put, zq1, zq2, zq3, zq4, zq5, zq6]
  refine wpAnyH_ready (rs := [11]) (by kernel_rfl) (by simp) ?_
  refine AllReadyH.cons rfl (fun KK hK => ?_) AllReadyH.nil
  simp only [zq1, zq2, zq3]
  rw [if_pos (by rfl)]
  go_simp
  clear hH
  refine hK.out _ _ ?_ (fun hH => ?_)
  ·exact ⟨(cell_aside _ (by have := unhide S0; dsimp only; omega) (cw3 (by have := unhide S0; dsimp only; omega) t0)), (cell_aside _ (by have := unhide S0; dsimp only; omega) (cw3 (by have := unhide S0; dsimp only; omega) t1)), (cell_aside _ (by have := unhide S0; dsimp only; omega) (cw3 (by have := unhide S0; dsimp only; omega) t2))⟩
  clear hK KK
  try simp only [Act.put, zq1, zq2, zq3, zq4, zq5, zq6]
  refine wpAnyH_take (i := 12) (v := .int .i64 GG) rfl (by kernel_rfl) (by kernel_rfl) (by kernel_rfl) (fun _ _ _ h => h) (Or.inl ⟨by rfl, ?_⟩) hH ?_
  ·intro wq hSw
   try dsimp only at hSw
   go_simp
  try simp only [Act.put, zq1, zq2, zq3, zq4, zq5, zq6]
  refine wpAnyH_done (by kernel_rfl) ?_ _
  clear hH
  have KF := hide (((((unhide K).setNew (p := ⟨w.heap.size + 1, 0, none⟩) (by simp) (.int .i64 A.1)).setNew (p := ⟨w.heap.size + 1, 1, none⟩) (by simp) (.bool false)).setNew (p := ⟨w.heap.size + 1, 2, none⟩) (by simp) (.int .i64 A.2.1)).setNew (p := ⟨w.heap.size + 1, 3, none⟩) (by simp) (.int .i64 A.2.2))
  clear r1 r3 K
  try go_wp2_with fail
  exact bodyPost_ret (v := .tuple #[.agg #[.int .i64 A.1, .bool false, .int .i64 A.2.1, .int .i64 A.2.2], .int .i64 GG]) (by simp [results, Tryd.results9, go_sem, q0, q1, q2, q3]) rfl ⟨by rw [unhide FQ], unhide KF⟩

theorem sqI_any {k : Int} {n : Bool} {m e : Int} (h : flok k n m e = true) (mode : Int) (hm0 : 0 ≤ mode) (hm4 : mode ≤ 4) (w : World) (T : TabB w) :
    Calls Tryd.prog 26 #[ivl k n m e, .int .i64 mode] w fun e' w' => e' = .returned (.tuple #[flq (sqQ k n m e mode).1, .int .i64 (sqQ k n m e mode).2]) ∧ Kept 0 0 w w' := by
  rcases flok_ways h with ⟨rfl, a1, a2, a3, a4, -⟩ | ⟨rfl, rfl, rfl⟩ | ⟨rfl, rfl, rfl⟩ | ⟨rfl, rfl, rfl, rfl⟩
  ·cases n
   ·exact sqI_num_false m e a1 a2 a3 a4 mode hm0 hm4 w T
   ·exact sqI_num_true m e a1 a2 a3 a4 mode hm0 hm4 w
  ·exact sqI_nought n mode hm0 hm4 w
  ·cases n
   ·exact sqI_inf_false mode hm0 hm4 w
   ·exact sqI_inf_true mode hm0 hm4 w
  ·exact sqI_nan mode hm0 hm4 w

theorem sqS_any {k : Int} {n : Bool} {m e : Int} (h : flok k n m e = true) (mode : Int) (hm0 : 0 ≤ mode) (hm4 : mode ≤ 4) (hmB : modeB mode = true) (w : World) :
    Calls Tryd.prog 9 #[flv k n m e, .int .i64 mode] w fun e' w' => e' = .returned (.tuple #[flq (sqQ k n m e mode).1, .int .i64 (sqQ k n m e mode).2]) ∧ Kept 0 0 w w' := by
  rcases flok_ways h with ⟨rfl, a1, a2, a3, a4, -⟩ | ⟨rfl, rfl, rfl⟩ | ⟨rfl, rfl, rfl⟩ | ⟨rfl, rfl, rfl, rfl⟩
  ·cases n
   ·exact sqS_num_false m e a1 a2 a3 a4 mode hm0 hm4 hmB h w
   ·exact sqS_num_true m e a1 a2 a3 a4 mode hm0 hm4 hmB h w
  ·exact sqS_nought n mode hm0 hm4 hmB h w
  ·cases n
   ·exact sqS_inf_false mode hm0 hm4 hmB h w
   ·exact sqS_inf_true mode hm0 hm4 hmB h w
  ·exact sqS_nan mode hm0 hm4 hmB h w

set_option maxHeartbeats 2000000 in
theorem flsqrt_impl (k : Int) (n : Bool) (m e mode : Int) (w : World) (T : TabB w) :
    Calls Tryd.prog 10 #[flv k n m e, .int .i64 mode] w fun e' w' => e' = .returned (.tuple #[flq (fsqQ k n m e mode).1, .int .i64 (fsqQ k n m e mode).2]) ∧ Kept 0 0 w w' := by
  obtain ⟨Q, hQ⟩ : ∃ q, fsqQ k n m e mode = q := ⟨_, rfl⟩
  rw [hQ]
  have HQ := hide hQ
  clear hQ
  obtain ⟨Wn, hn0⟩ : ∃ wz, wz = ((w.alloc (.cells #[.int .i64 k, .bool n, .int .i64 m, .int .i64 e] 24)).alloc (.cells #[.int .i64 0, .bool false, .int .i64 0, .int .i64 0] 24)) := ⟨_, rfl⟩
  have k0 : Kept 0 0 w Wn := by rw [hn0]; exact (((Kept.refl 0 0 w).alloc _).alloc _)
  have p0 : Wn.cell? ⟨w.heap.size, 0, none⟩ = some (.int .i64 k) := by rw [hn0]; exact old_cell _ (new_cell2 _ _ _ _ _ _ (by simp) rfl)
  have p1 : Wn.cell? ⟨w.heap.size, 1, none⟩ = some (.bool n) := by rw [hn0]; exact old_cell _ (new_cell2 _ _ _ _ _ _ (by simp) rfl)
  have p2 : Wn.cell? ⟨w.heap.size, 2, none⟩ = some (.int .i64 m) := by rw [hn0]; exact old_cell _ (new_cell2 _ _ _ _ _ _ (by simp) rfl)
  have p3 : Wn.cell? ⟨w.heap.size, 3, none⟩ = some (.int .i64 e) := by rw [hn0]; exact old_cell _ (new_cell2 _ _ _ _ _ _ (by simp) rfl)
  have q0 : Wn.cell? ⟨w.heap.size + 1, 0, none⟩ = some (.int .i64 0) := by rw [hn0]; exact new_cell2 _ _ _ _ _ _ (by simp) rfl
  have qf0 : Wn.frozen? ⟨w.heap.size + 1, 0, none⟩ = false := by rw [hn0]; exact new_loose2 _ _ _ _ _ (by simp)
  have q1 : Wn.cell? ⟨w.heap.size + 1, 1, none⟩ = some (.bool false) := by rw [hn0]; exact new_cell2 _ _ _ _ _ _ (by simp) rfl
  have qf1 : Wn.frozen? ⟨w.heap.size + 1, 1, none⟩ = false := by rw [hn0]; exact new_loose2 _ _ _ _ _ (by simp)
  have q2 : Wn.cell? ⟨w.heap.size + 1, 2, none⟩ = some (.int .i64 0) := by rw [hn0]; exact new_cell2 _ _ _ _ _ _ (by simp) rfl
  have qf2 : Wn.frozen? ⟨w.heap.size + 1, 2, none⟩ = false := by rw [hn0]; exact new_loose2 _ _ _ _ _ (by simp)
  have q3 : Wn.cell? ⟨w.heap.size + 1, 3, none⟩ = some (.int .i64 0) := by rw [hn0]; exact new_cell2 _ _ _ _ _ _ (by simp) rfl
  have qf3 : Wn.frozen? ⟨w.heap.size + 1, 3, none⟩ = false := by rw [hn0]; exact new_loose2 _ _ _ _ _ (by simp)
  have s0 : Wn.heap.size = w.heap.size + 2 := by rw [hn0]; exact by simp
  subst hn0
  have K := hide (k0)
  clear k0
  have S0 := hide s0
  clear s0
  go_enter Tryd.func10, Tryd.ntmps10
  go_wp2_with fail
  generalize ((w.alloc (.cells #[.int .i64 k, .bool n, .int .i64 m, .int .i64 e] 24)).alloc (.cells #[.int .i64 0, .bool false, .int .i64 0, .int .i64 0] 24)) = W at *
  cases h1 : flok k n m e
  ·refine (flok_impl_k h1 _).mono ?_
   rintro e w1 ⟨rfl, k1⟩
   replace qf0 := k1.loose0 (zbl q0) qf0
   replace qf1 := k1.loose0 (zbl q1) qf1
   replace qf2 := k1.loose0 (zbl q2) qf2
   replace qf3 := k1.loose0 (zbl q3) qf3
   replace p0 := k1.cell0 p0
   replace p1 := k1.cell0 p1
   replace p2 := k1.cell0 p2
   replace p3 := k1.cell0 p3
   replace q0 := k1.cell0 q0
   replace q1 := k1.cell0 q1
   replace q2 := k1.cell0 q2
   replace q3 := k1.cell0 q3
   replace K := hide ((unhide K).trans k1)
   have z2 := k1.size
   clear k1
   have FQ : Hid (Q = ((3, false, 0, 0), 16)) := by
    show _ = _
    have hc : okS k n m e mode = false := by unfold okS; rw [h1]; rfl
    rw [← unhide HQ]; unfold fsqQ; rw [hc]; rfl
   go_wp2_with fail
   refine (badF_impl _).mono ?_
   rintro e w3 ⟨rfl, k3⟩
   replace qf0 := k3.loose0 (zbl q0) qf0
   replace qf1 := k3.loose0 (zbl q1) qf1
   replace qf2 := k3.loose0 (zbl q2) qf2
   replace qf3 := k3.loose0 (zbl q3) qf3
   replace p0 := k3.cell0 p0
   replace p1 := k3.cell0 p1
   replace p2 := k3.cell0 p2
   replace p3 := k3.cell0 p3
   replace q0 := k3.cell0 q0
   replace q1 := k3.cell0 q1
   replace q2 := k3.cell0 q2
   replace q3 := k3.cell0 q3
   replace K := hide ((unhide K).trans k3)
   have z4 := k3.size
   clear k3
   have KF := hide (((((unhide K).setNew (p := ⟨w.heap.size + 1, 0, none⟩) (by simp) (.int .i64 3)).setNew (p := ⟨w.heap.size + 1, 1, none⟩) (by simp) (.bool false)).setNew (p := ⟨w.heap.size + 1, 2, none⟩) (by simp) (.int .i64 0)).setNew (p := ⟨w.heap.size + 1, 3, none⟩) (by simp) (.int .i64 0))
   clear K
   try go_wp2_with fail
   exact bodyPost_ret (v := .tuple #[.agg #[.int .i64 3, .bool false, .int .i64 0, .int .i64 0], .int .i64 16]) (by simp [results, Tryd.results10, go_sem, q0, q1, q2, q3]) rfl ⟨by rw [unhide FQ], unhide KF⟩
  refine (flok_impl_k h1 _).mono ?_
  rintro e w1 ⟨rfl, k1⟩
  replace qf0 := k1.loose0 (zbl q0) qf0
  replace qf1 := k1.loose0 (zbl q1) qf1
  replace qf2 := k1.loose0 (zbl q2) qf2
  replace qf3 := k1.loose0 (zbl q3) qf3
  replace p0 := k1.cell0 p0
  replace p1 := k1.cell0 p1
  replace p2 := k1.cell0 p2
  replace p3 := k1.cell0 p3
  replace q0 := k1.cell0 q0
  replace q1 := k1.cell0 q1
  replace q2 := k1.cell0 q2
  replace q3 := k1.cell0 q3
  replace K := hide ((unhide K).trans k1)
  have z2 := k1.size
  clear k1
  go_wp2_with fail
  cases hm : modeB mode
  ·have mm := isMode_impl mode w1
   rw [hm] at mm
   refine mm.mono ?_
   rintro e' wm5 ⟨rfl, rfl⟩
   clear mm
   have FQ : Hid (Q = ((3, false, 0, 0), 16)) := by
    show _ = _
    have hc : okS k n m e mode = false := by unfold okS; rw [hm]; simp
    rw [← unhide HQ]; unfold fsqQ; rw [hc]; rfl
   go_wp2_with fail
   refine (badF_impl _).mono ?_
   rintro e w3 ⟨rfl, k3⟩
   replace qf0 := k3.loose0 (zbl q0) qf0
   replace qf1 := k3.loose0 (zbl q1) qf1
   replace qf2 := k3.loose0 (zbl q2) qf2
   replace qf3 := k3.loose0 (zbl q3) qf3
   replace p0 := k3.cell0 p0
   replace p1 := k3.cell0 p1
   replace p2 := k3.cell0 p2
   replace p3 := k3.cell0 p3
   replace q0 := k3.cell0 q0
   replace q1 := k3.cell0 q1
   replace q2 := k3.cell0 q2
   replace q3 := k3.cell0 q3
   replace K := hide ((unhide K).trans k3)
   have z4 := k3.size
   clear k3
   have KF := hide (((((unhide K).setNew (p := ⟨w.heap.size + 1, 0, none⟩) (by simp) (.int .i64 3)).setNew (p := ⟨w.heap.size + 1, 1, none⟩) (by simp) (.bool false)).setNew (p := ⟨w.heap.size + 1, 2, none⟩) (by simp) (.int .i64 0)).setNew (p := ⟨w.heap.size + 1, 3, none⟩) (by simp) (.int .i64 0))
   clear K
   try go_wp2_with fail
   exact bodyPost_ret (v := .tuple #[.agg #[.int .i64 3, .bool false, .int .i64 0, .int .i64 0], .int .i64 16]) (by simp [results, Tryd.results10, go_sem, q0, q1, q2, q3]) rfl ⟨by rw [unhide FQ], unhide KF⟩
  have mm := isMode_impl mode w1
  rw [hm] at mm
  refine mm.mono ?_
  rintro e' wm5 ⟨rfl, rfl⟩
  clear mm
  have hc : okS k n m e mode = true := by unfold okS; rw [h1, hm]; rfl
  obtain ⟨-, -, h3, h4⟩ := okS_iff hc
  have hM : sqQ k n m e mode = Q := by rw [← unhide HQ]; unfold fsqQ; rw [hc, if_pos rfl]
  have HM := hide hM
  clear hc hM hm
  go_wp2_with fail
  have mf := fo_any h1 wm5
  obtain ⟨I1, hI1⟩ : ∃ y, ivl k n m e = y := ⟨_, rfl⟩
  have mm := fun (w : World) (T : TabB w) => sqI_any h1 mode h3 h4 w T
  simp only [hI1] at mf mm
  simp only [unhide HM] at mm
  have HMM := hide mm
  clear mm hI1
  refine (mf).mono ?_
  rintro e w3 ⟨rfl, k3⟩
  replace qf0 := k3.loose0 (zbl q0) qf0
  replace qf1 := k3.loose0 (zbl q1) qf1
  replace qf2 := k3.loose0 (zbl q2) qf2
  replace qf3 := k3.loose0 (zbl q3) qf3
  replace p0 := k3.cell0 p0
  replace p1 := k3.cell0 p1
  replace p2 := k3.cell0 p2
  replace p3 := k3.cell0 p3
  replace q0 := k3.cell0 q0
  replace q1 := k3.cell0 q1
  replace q2 := k3.cell0 q2
  replace q3 := k3.cell0 q3
  replace K := hide ((unhide K).trans k3)
  have z4 := k3.size
  clear k3
  clear mf
  go_wp2_with fail
  refine (unhide HMM _ (T.kept (unhide K))).mono ?_
  rintro e w5 ⟨rfl, k5⟩
  replace qf0 := k5.loose0 (zbl q0) qf0
  replace qf1 := k5.loose0 (zbl q1) qf1
  replace qf2 := k5.loose0 (zbl q2) qf2
  replace qf3 := k5.loose0 (zbl q3) qf3
  replace p0 := k5.cell0 p0
  replace p1 := k5.cell0 p1
  replace p2 := k5.cell0 p2
  replace p3 := k5.cell0 p3
  replace q0 := k5.cell0 q0
  replace q1 := k5.cell0 q1
  replace q2 := k5.cell0 q2
  replace q3 := k5.cell0 q3
  replace K := hide ((unhide K).trans k5)
  have z6 := k5.size
  clear k5
  have KF := hide (((((unhide K).setNew (p := ⟨w.heap.size + 1, 0, none⟩) (by simp) (.int .i64 Q.1.1)).setNew (p := ⟨w.heap.size + 1, 1, none⟩) (by simp) (.bool Q.1.2.1)).setNew (p := ⟨w.heap.size + 1, 2, none⟩) (by simp) (.int .i64 Q.1.2.2.1)).setNew (p := ⟨w.heap.size + 1, 3, none⟩) (by simp) (.int .i64 Q.1.2.2.2))
  clear K
  try go_wp2_with fail
  exact bodyPost_ret (v := .tuple #[.agg #[.int .i64 Q.1.1, .bool Q.1.2.1, .int .i64 Q.1.2.2.1, .int .i64 Q.1.2.2.2], .int .i64 Q.2]) (by simp [results, Tryd.results10, go_sem, q0, q1, q2, q3]) rfl ⟨rfl, unhide KF⟩

set_option maxHeartbeats 2000000 in
theorem flsqrt_no1 (k : Int) (n : Bool) (m e mode : Int) (h1 : flok k n m e = false) (w : World) :
    Calls Tryd.prog 9 #[flv k n m e, .int .i64 mode] w fun e' w' => e' = .returned (.tuple #[flv 3 false 0 0, .int .i64 16]) ∧ Kept 0 0 w w' := by
  obtain ⟨Wn, hn0⟩ : ∃ wz, wz = ((w.alloc (.cells #[.int .i64 k, .bool n, .int .i64 m, .int .i64 e] 24)).alloc (.cells #[.int .i64 0, .bool false, .int .i64 0, .int .i64 0] 24)) := ⟨_, rfl⟩
  have k0 : Kept 0 0 w Wn := by rw [hn0]; exact (((Kept.refl 0 0 w).alloc _).alloc _)
  have p0 : Wn.cell? ⟨w.heap.size, 0, none⟩ = some (.int .i64 k) := by rw [hn0]; exact old_cell _ (new_cell2 _ _ _ _ _ _ (by simp) rfl)
  have p1 : Wn.cell? ⟨w.heap.size, 1, none⟩ = some (.bool n) := by rw [hn0]; exact old_cell _ (new_cell2 _ _ _ _ _ _ (by simp) rfl)
  have p2 : Wn.cell? ⟨w.heap.size, 2, none⟩ = some (.int .i64 m) := by rw [hn0]; exact old_cell _ (new_cell2 _ _ _ _ _ _ (by simp) rfl)
  have p3 : Wn.cell? ⟨w.heap.size, 3, none⟩ = some (.int .i64 e) := by rw [hn0]; exact old_cell _ (new_cell2 _ _ _ _ _ _ (by simp) rfl)
  have q0 : Wn.cell? ⟨w.heap.size + 1, 0, none⟩ = some (.int .i64 0) := by rw [hn0]; exact new_cell2 _ _ _ _ _ _ (by simp) rfl
  have qf0 : Wn.frozen? ⟨w.heap.size + 1, 0, none⟩ = false := by rw [hn0]; exact new_loose2 _ _ _ _ _ (by simp)
  have q1 : Wn.cell? ⟨w.heap.size + 1, 1, none⟩ = some (.bool false) := by rw [hn0]; exact new_cell2 _ _ _ _ _ _ (by simp) rfl
  have qf1 : Wn.frozen? ⟨w.heap.size + 1, 1, none⟩ = false := by rw [hn0]; exact new_loose2 _ _ _ _ _ (by simp)
  have q2 : Wn.cell? ⟨w.heap.size + 1, 2, none⟩ = some (.int .i64 0) := by rw [hn0]; exact new_cell2 _ _ _ _ _ _ (by simp) rfl
  have qf2 : Wn.frozen? ⟨w.heap.size + 1, 2, none⟩ = false := by rw [hn0]; exact new_loose2 _ _ _ _ _ (by simp)
  have q3 : Wn.cell? ⟨w.heap.size + 1, 3, none⟩ = some (.int .i64 0) := by rw [hn0]; exact new_cell2 _ _ _ _ _ _ (by simp) rfl
  have qf3 : Wn.frozen? ⟨w.heap.size + 1, 3, none⟩ = false := by rw [hn0]; exact new_loose2 _ _ _ _ _ (by simp)
  have s0 : Wn.heap.size = w.heap.size + 2 := by rw [hn0]; exact by simp
  subst hn0
  have K := hide (k0)
  clear k0
  have S0 := hide s0
  clear s0
  go_enter Tryd.func9, Tryd.ntmps9
  go_wp2_with fail
  generalize ((w.alloc (.cells #[.int .i64 k, .bool n, .int .i64 m, .int .i64 e] 24)).alloc (.cells #[.int .i64 0, .bool false, .int .i64 0, .int .i64 0] 24)) = W at *
  refine (flok_spec_k h1 _).mono ?_
  rintro e w1 ⟨rfl, k1⟩
  replace qf0 := k1.loose0 (zbl q0) qf0
  replace qf1 := k1.loose0 (zbl q1) qf1
  replace qf2 := k1.loose0 (zbl q2) qf2
  replace qf3 := k1.loose0 (zbl q3) qf3
  replace p0 := k1.cell0 p0
  replace p1 := k1.cell0 p1
  replace p2 := k1.cell0 p2
  replace p3 := k1.cell0 p3
  replace q0 := k1.cell0 q0
  replace q1 := k1.cell0 q1
  replace q2 := k1.cell0 q2
  replace q3 := k1.cell0 q3
  replace K := hide ((unhide K).trans k1)
  have z2 := k1.size
  clear k1
  go_wp2_with fail
  refine (bad_spec _).mono ?_
  rintro e w3 ⟨rfl, k3⟩
  replace qf0 := k3.loose0 (zbl q0) qf0
  replace qf1 := k3.loose0 (zbl q1) qf1
  replace qf2 := k3.loose0 (zbl q2) qf2
  replace qf3 := k3.loose0 (zbl q3) qf3
  replace p0 := k3.cell0 p0
  replace p1 := k3.cell0 p1
  replace p2 := k3.cell0 p2
  replace p3 := k3.cell0 p3
  replace q0 := k3.cell0 q0
  replace q1 := k3.cell0 q1
  replace q2 := k3.cell0 q2
  replace q3 := k3.cell0 q3
  replace K := hide ((unhide K).trans k3)
  have z4 := k3.size
  clear k3
  have KF := hide (((((unhide K).setNew (p := ⟨w.heap.size + 1, 0, none⟩) (by simp) (.int .i64 3)).setNew (p := ⟨w.heap.size + 1, 1, none⟩) (by simp) (.bool false)).setNew (p := ⟨w.heap.size + 1, 2, none⟩) (by simp) (.int .i64 0)).setNew (p := ⟨w.heap.size + 1, 3, none⟩) (by simp) (.int .i64 0))
  clear K
  try go_wp2_with fail
  exact bodyPost_ret (v := .tuple #[.agg #[.int .i64 3, .bool false, .int .i64 0, .int .i64 0], .int .i64 16]) (by simp [results, Tryd.results9, go_sem, q0, q1, q2, q3]) rfl ⟨rfl, unhide KF⟩

set_option maxHeartbeats 2000000 in
theorem flsqrt_no2 (k : Int) (n : Bool) (m e mode : Int) (h1 : flok k n m e = true) (hm : modeB mode = false) (w : World) :
    Calls Tryd.prog 9 #[flv k n m e, .int .i64 mode] w fun e' w' => e' = .returned (.tuple #[flv 3 false 0 0, .int .i64 16]) ∧ Kept 0 0 w w' := by
  obtain ⟨Wn, hn0⟩ : ∃ wz, wz = ((w.alloc (.cells #[.int .i64 k, .bool n, .int .i64 m, .int .i64 e] 24)).alloc (.cells #[.int .i64 0, .bool false, .int .i64 0, .int .i64 0] 24)) := ⟨_, rfl⟩
  have k0 : Kept 0 0 w Wn := by rw [hn0]; exact (((Kept.refl 0 0 w).alloc _).alloc _)
  have p0 : Wn.cell? ⟨w.heap.size, 0, none⟩ = some (.int .i64 k) := by rw [hn0]; exact old_cell _ (new_cell2 _ _ _ _ _ _ (by simp) rfl)
  have p1 : Wn.cell? ⟨w.heap.size, 1, none⟩ = some (.bool n) := by rw [hn0]; exact old_cell _ (new_cell2 _ _ _ _ _ _ (by simp) rfl)
  have p2 : Wn.cell? ⟨w.heap.size, 2, none⟩ = some (.int .i64 m) := by rw [hn0]; exact old_cell _ (new_cell2 _ _ _ _ _ _ (by simp) rfl)
  have p3 : Wn.cell? ⟨w.heap.size, 3, none⟩ = some (.int .i64 e) := by rw [hn0]; exact old_cell _ (new_cell2 _ _ _ _ _ _ (by simp) rfl)
  have q0 : Wn.cell? ⟨w.heap.size + 1, 0, none⟩ = some (.int .i64 0) := by rw [hn0]; exact new_cell2 _ _ _ _ _ _ (by simp) rfl
  have qf0 : Wn.frozen? ⟨w.heap.size + 1, 0, none⟩ = false := by rw [hn0]; exact new_loose2 _ _ _ _ _ (by simp)
  have q1 : Wn.cell? ⟨w.heap.size + 1, 1, none⟩ = some (.bool false) := by rw [hn0]; exact new_cell2 _ _ _ _ _ _ (by simp) rfl
  have qf1 : Wn.frozen? ⟨w.heap.size + 1, 1, none⟩ = false := by rw [hn0]; exact new_loose2 _ _ _ _ _ (by simp)
  have q2 : Wn.cell? ⟨w.heap.size + 1, 2, none⟩ = some (.int .i64 0) := by rw [hn0]; exact new_cell2 _ _ _ _ _ _ (by simp) rfl
  have qf2 : Wn.frozen? ⟨w.heap.size + 1, 2, none⟩ = false := by rw [hn0]; exact new_loose2 _ _ _ _ _ (by simp)
  have q3 : Wn.cell? ⟨w.heap.size + 1, 3, none⟩ = some (.int .i64 0) := by rw [hn0]; exact new_cell2 _ _ _ _ _ _ (by simp) rfl
  have qf3 : Wn.frozen? ⟨w.heap.size + 1, 3, none⟩ = false := by rw [hn0]; exact new_loose2 _ _ _ _ _ (by simp)
  have s0 : Wn.heap.size = w.heap.size + 2 := by rw [hn0]; exact by simp
  subst hn0
  have K := hide (k0)
  clear k0
  have S0 := hide s0
  clear s0
  go_enter Tryd.func9, Tryd.ntmps9
  go_wp2_with fail
  generalize ((w.alloc (.cells #[.int .i64 k, .bool n, .int .i64 m, .int .i64 e] 24)).alloc (.cells #[.int .i64 0, .bool false, .int .i64 0, .int .i64 0] 24)) = W at *
  refine (flok_spec_k h1 _).mono ?_
  rintro e w1 ⟨rfl, k1⟩
  replace qf0 := k1.loose0 (zbl q0) qf0
  replace qf1 := k1.loose0 (zbl q1) qf1
  replace qf2 := k1.loose0 (zbl q2) qf2
  replace qf3 := k1.loose0 (zbl q3) qf3
  replace p0 := k1.cell0 p0
  replace p1 := k1.cell0 p1
  replace p2 := k1.cell0 p2
  replace p3 := k1.cell0 p3
  replace q0 := k1.cell0 q0
  replace q1 := k1.cell0 q1
  replace q2 := k1.cell0 q2
  replace q3 := k1.cell0 q3
  replace K := hide ((unhide K).trans k1)
  have z2 := k1.size
  clear k1
  go_wp2_with fail
  have mm := mode_spec mode w1
  rw [hm] at mm
  refine mm.mono ?_
  rintro e' wm5 ⟨rfl, rfl⟩
  clear mm
  go_wp2_with fail
  refine (bad_spec _).mono ?_
  rintro e w3 ⟨rfl, k3⟩
  replace qf0 := k3.loose0 (zbl q0) qf0
  replace qf1 := k3.loose0 (zbl q1) qf1
  replace qf2 := k3.loose0 (zbl q2) qf2
  replace qf3 := k3.loose0 (zbl q3) qf3
  replace p0 := k3.cell0 p0
  replace p1 := k3.cell0 p1
  replace p2 := k3.cell0 p2
  replace p3 := k3.cell0 p3
  replace q0 := k3.cell0 q0
  replace q1 := k3.cell0 q1
  replace q2 := k3.cell0 q2
  replace q3 := k3.cell0 q3
  replace K := hide ((unhide K).trans k3)
  have z4 := k3.size
  clear k3
  have KF := hide (((((unhide K).setNew (p := ⟨w.heap.size + 1, 0, none⟩) (by simp) (.int .i64 3)).setNew (p := ⟨w.heap.size + 1, 1, none⟩) (by simp) (.bool false)).setNew (p := ⟨w.heap.size + 1, 2, none⟩) (by simp) (.int .i64 0)).setNew (p := ⟨w.heap.size + 1, 3, none⟩) (by simp) (.int .i64 0))
  clear K
  try go_wp2_with fail
  exact bodyPost_ret (v := .tuple #[.agg #[.int .i64 3, .bool false, .int .i64 0, .int .i64 0], .int .i64 16]) (by simp [results, Tryd.results9, go_sem, q0, q1, q2, q3]) rfl ⟨rfl, unhide KF⟩

theorem flsqrt_spec (k : Int) (n : Bool) (m e mode : Int) (w : World) :
    Calls Tryd.prog 9 #[flv k n m e, .int .i64 mode] w fun e' w' => e' = .returned (.tuple #[flq (fsqQ k n m e mode).1, .int .i64 (fsqQ k n m e mode).2]) ∧ Kept 0 0 w w' := by
  cases h1 : flok k n m e
  ·have hc : okS k n m e mode = false := by unfold okS; rw [h1]; rfl
   unfold fsqQ
   rw [hc]
   exact flsqrt_no1 k n m e mode h1 w
  cases hm : modeB mode
  ·have hc : okS k n m e mode = false := by unfold okS; rw [hm]; simp
   unfold fsqQ
   rw [hc]
   exact flsqrt_no2 k n m e mode h1 hm w
  ·have hc : okS k n m e mode = true := by unfold okS; rw [h1, hm]; rfl
   obtain ⟨-, -, h3, h4⟩ := okS_iff hc
   unfold fsqQ
   rw [hc, if_pos rfl]
   exact sqS_any h1 mode h3 h4 hm w
theorem eqFl_k2 (k : Int) (n : Bool) (m e : Int) (w : World) :
    Calls Tryd.prog 8 #[flv k n m e, flv k n m e] w fun r w' => r = .returned (.bool true) ∧ Kept 0 0 w w' :=
  (eqFl_same k n m e w).mono (fun e w' h => ⟨h.1, by rw [h.2]; exact ((Kept.refl 0 0 w).alloc _).alloc _⟩)

set_option maxHeartbeats 4000000 in
theorem law_FlSqrt (k : Int) (n : Bool) (m e : Int) (_ : (Lit.int .i64 m).wf = true) (_ : (Lit.int .i64 e).wf = true) (mode : Int) (_ : (Lit.int .i64 mode).wf = true) (w : World) (T : TabB w) :
    Calls Tryd.prog 4 #[flv k n m e, .int .i64 mode] w fun e w' => e = .returned (.bool true) ∧ Below w.heap.size w w' := by
  obtain ⟨Q, hQ⟩ : ∃ q, fsqQ k n m e mode = q := ⟨_, rfl⟩
  have ms := fun w => flsqrt_spec k n m e mode w
  have mi := fun (w : World) (T : TabB w) => flsqrt_impl k n m e mode w T
  simp only [hQ] at ms mi
  replace ms := hide ms
  replace mi := hide mi
  clear hQ
  obtain ⟨Wn, hn0⟩ : ∃ wz, wz = (w.alloc (.cells #[.int .i64 k, .bool n, .int .i64 m, .int .i64 e] 23)) := ⟨_, rfl⟩
  have k0 : Kept 0 0 w Wn := by rw [hn0]; exact ((Kept.refl 0 0 w).alloc _)
  have p0 : Wn.cell? ⟨w.heap.size, 0, none⟩ = some (.int .i64 k) := by rw [hn0]; exact new_cell2 _ _ _ _ _ _ (by simp) rfl
  have p1 : Wn.cell? ⟨w.heap.size, 1, none⟩ = some (.bool n) := by rw [hn0]; exact new_cell2 _ _ _ _ _ _ (by simp) rfl
  have p2 : Wn.cell? ⟨w.heap.size, 2, none⟩ = some (.int .i64 m) := by rw [hn0]; exact new_cell2 _ _ _ _ _ _ (by simp) rfl
  have p3 : Wn.cell? ⟨w.heap.size, 3, none⟩ = some (.int .i64 e) := by rw [hn0]; exact new_cell2 _ _ _ _ _ _ (by simp) rfl
  have s0 : Wn.heap.size = w.heap.size + 1 := by rw [hn0]; exact by simp
  subst hn0
  have K := hide (k0)
  clear k0
  have S0 := hide s0
  clear s0
  go_enter Tryd.func4, Tryd.ntmps4
  go_wp2_with fail
  generalize (w.alloc (.cells #[.int .i64 k, .bool n, .int .i64 m, .int .i64 e] 23)) = W at *
  refine (toFl_k k n m e _).mono ?_
  rintro e w1 ⟨rfl, k1⟩
  replace p0 := k1.cell0 p0
  replace p1 := k1.cell0 p1
  replace p2 := k1.cell0 p2
  replace p3 := k1.cell0 p3
  replace K := hide ((unhide K).trans k1)
  have z2 := k1.size
  clear k1
  go_wp2_with fail
  refine (unhide ms _).mono ?_
  rintro e w3 ⟨rfl, k3⟩
  replace p0 := k3.cell0 p0
  replace p1 := k3.cell0 p1
  replace p2 := k3.cell0 p2
  replace p3 := k3.cell0 p3
  replace K := hide ((unhide K).trans k3)
  have z4 := k3.size
  clear k3
  have kn := (Kept.refl 0 0 w3).alloc (.cells #[.int .i64 Q.1.1, .bool Q.1.2.1, .int .i64 Q.1.2.2.1, .int .i64 Q.1.2.2.2] 24)
  have t0 : (w3.alloc (.cells #[.int .i64 Q.1.1, .bool Q.1.2.1, .int .i64 Q.1.2.2.1, .int .i64 Q.1.2.2.2] 24)).cell? ⟨w3.heap.size, 0, none⟩ = some (.int .i64 Q.1.1) := new_cell2 _ _ _ _ _ _ (by simp) rfl
  have t1 : (w3.alloc (.cells #[.int .i64 Q.1.1, .bool Q.1.2.1, .int .i64 Q.1.2.2.1, .int .i64 Q.1.2.2.2] 24)).cell? ⟨w3.heap.size, 1, none⟩ = some (.bool Q.1.2.1) := new_cell2 _ _ _ _ _ _ (by simp) rfl
  have t2 : (w3.alloc (.cells #[.int .i64 Q.1.1, .bool Q.1.2.1, .int .i64 Q.1.2.2.1, .int .i64 Q.1.2.2.2] 24)).cell? ⟨w3.heap.size, 2, none⟩ = some (.int .i64 Q.1.2.2.1) := new_cell2 _ _ _ _ _ _ (by simp) rfl
  have t3 : (w3.alloc (.cells #[.int .i64 Q.1.1, .bool Q.1.2.1, .int .i64 Q.1.2.2.1, .int .i64 Q.1.2.2.2] 24)).cell? ⟨w3.heap.size, 3, none⟩ = some (.int .i64 Q.1.2.2.2) := new_cell2 _ _ _ _ _ _ (by simp) rfl
  have sz5 : w3.heap.size + 1 ≤ (w3.alloc (.cells #[.int .i64 Q.1.1, .bool Q.1.2.1, .int .i64 Q.1.2.2.1, .int .i64 Q.1.2.2.2] 24)).heap.size := by simp
  replace p0 := kn.cell0 p0
  replace p1 := kn.cell0 p1
  replace p2 := kn.cell0 p2
  replace p3 := kn.cell0 p3
  replace K := hide ((unhide K).trans kn)
  have z6 := kn.size
  clear kn
  go_wp2_with fail
  generalize (w3.alloc (.cells #[.int .i64 Q.1.1, .bool Q.1.2.1, .int .i64 Q.1.2.2.1, .int .i64 Q.1.2.2.2] 24)) = wn7 at *
  refine (toFl_k k n m e _).mono ?_
  rintro e w8 ⟨rfl, k8⟩
  replace p0 := k8.cell0 p0
  replace p1 := k8.cell0 p1
  replace p2 := k8.cell0 p2
  replace p3 := k8.cell0 p3
  replace t0 := k8.cell0 t0
  replace t1 := k8.cell0 t1
  replace t2 := k8.cell0 t2
  replace t3 := k8.cell0 t3
  replace K := hide ((unhide K).trans k8)
  have z9 := k8.size
  clear k8
  go_wp2_with fail
  refine (unhide mi _ (T.kept (unhide K))).mono ?_
  rintro e w10 ⟨rfl, k10⟩
  replace p0 := k10.cell0 p0
  replace p1 := k10.cell0 p1
  replace p2 := k10.cell0 p2
  replace p3 := k10.cell0 p3
  replace t0 := k10.cell0 t0
  replace t1 := k10.cell0 t1
  replace t2 := k10.cell0 t2
  replace t3 := k10.cell0 t3
  replace K := hide ((unhide K).trans k10)
  have z11 := k10.size
  clear k10
  have kn := (Kept.refl 0 0 w10).alloc (.cells #[.int .i64 Q.1.1, .bool Q.1.2.1, .int .i64 Q.1.2.2.1, .int .i64 Q.1.2.2.2] 24)
  have u0 : (w10.alloc (.cells #[.int .i64 Q.1.1, .bool Q.1.2.1, .int .i64 Q.1.2.2.1, .int .i64 Q.1.2.2.2] 24)).cell? ⟨w10.heap.size, 0, none⟩ = some (.int .i64 Q.1.1) := new_cell2 _ _ _ _ _ _ (by simp) rfl
  have u1 : (w10.alloc (.cells #[.int .i64 Q.1.1, .bool Q.1.2.1, .int .i64 Q.1.2.2.1, .int .i64 Q.1.2.2.2] 24)).cell? ⟨w10.heap.size, 1, none⟩ = some (.bool Q.1.2.1) := new_cell2 _ _ _ _ _ _ (by simp) rfl
  have u2 : (w10.alloc (.cells #[.int .i64 Q.1.1, .bool Q.1.2.1, .int .i64 Q.1.2.2.1, .int .i64 Q.1.2.2.2] 24)).cell? ⟨w10.heap.size, 2, none⟩ = some (.int .i64 Q.1.2.2.1) := new_cell2 _ _ _ _ _ _ (by simp) rfl
  have u3 : (w10.alloc (.cells #[.int .i64 Q.1.1, .bool Q.1.2.1, .int .i64 Q.1.2.2.1, .int .i64 Q.1.2.2.2] 24)).cell? ⟨w10.heap.size, 3, none⟩ = some (.int .i64 Q.1.2.2.2) := new_cell2 _ _ _ _ _ _ (by simp) rfl
  have sz12 : w10.heap.size + 1 ≤ (w10.alloc (.cells #[.int .i64 Q.1.1, .bool Q.1.2.1, .int .i64 Q.1.2.2.1, .int .i64 Q.1.2.2.2] 24)).heap.size := by simp
  replace p0 := kn.cell0 p0
  replace p1 := kn.cell0 p1
  replace p2 := kn.cell0 p2
  replace p3 := kn.cell0 p3
  replace t0 := kn.cell0 t0
  replace t1 := kn.cell0 t1
  replace t2 := kn.cell0 t2
  replace t3 := kn.cell0 t3
  replace K := hide ((unhide K).trans kn)
  have z13 := kn.size
  clear kn
  go_wp2_with fail
  generalize (w10.alloc (.cells #[.int .i64 Q.1.1, .bool Q.1.2.1, .int .i64 Q.1.2.2.1, .int .i64 Q.1.2.2.2] 24)) = wn14 at *
  refine (eqFl_k2 Q.1.1 Q.1.2.1 Q.1.2.2.1 Q.1.2.2.2 _).mono ?_
  rintro e w15 ⟨rfl, k15⟩
  replace p0 := k15.cell0 p0
  replace p1 := k15.cell0 p1
  replace p2 := k15.cell0 p2
  replace p3 := k15.cell0 p3
  replace t0 := k15.cell0 t0
  replace t1 := k15.cell0 t1
  replace t2 := k15.cell0 t2
  replace t3 := k15.cell0 t3
  replace u0 := k15.cell0 u0
  replace u1 := k15.cell0 u1
  replace u2 := k15.cell0 u2
  replace u3 := k15.cell0 u3
  replace K := hide ((unhide K).trans k15)
  have z16 := k15.size
  clear k15
  go_wp2_with fail
  go_ret
  exact ⟨rfl, (unhide K).toBelow⟩

end Go.Proofs.YtflpkblmcnkghaaDoor

