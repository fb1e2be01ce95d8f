/-
  Floats of numbers: FlRound and FlOfInt, the model's and the program's.
-/
import Derived.Test.YtepehpkmejjhiaaGreatDoorBU
import Derived.Test.YtepehpkmejjhiaaGreatDoorFlt3
namespace Go.Proofs.YtepehpkmejjhiaaGreatDoor
open Go.RowKit
set_option linter.unusedVariables false
set_option maxRecDepth 8000
set_option linter.unusedSimpArgs false

theorem fl_odd (mode : Int) (s : Bool) (m x : Int) : flA mode s m.natAbs x = flA mode s (val (dlm m)).toNat (dex m x) ∧ flG mode s m.natAbs x = flG mode s (val (dlm m)).toNat (dex m x) := by
  have hv : (val (dlm m)).toNat = m.natAbs / 2 ^ tz m.natAbs := by unfold dlm; rw [limbs_val, Int.toNat_natCast]
  by_cases h0 : m = 0
  ·subst h0
   rw [hv]
   unfold flA flG
   simp
  ·have hn : m.natAbs ≠ 0 := by omega
   obtain ⟨k, hk⟩ := tz_form hn
   have hp : 0 < 2 ^ tz m.natAbs := Nat.pow_pos (by decide)
   have hq : m.natAbs / 2 ^ tz m.natAbs = 2 * k + 1 := by
    have : m.natAbs / 2 ^ tz m.natAbs = (2 ^ tz m.natAbs * (2 * k + 1)) / 2 ^ tz m.natAbs := by rw [← hk]
    rw [this, Nat.mul_div_cancel_left _ hp]
   have e := fl_shift mode s (V := 2 * k + 1) (by omega) (tz m.natAbs) x
   rw [Nat.mul_comm (2 * k + 1), ← hk] at e
   have hd : dex m x = x + (tz m.natAbs : Int) := by unfold dex; rw [if_neg h0]
   rw [hv, hq, hd]
   exact e
theorem odd_dlm (m : Int) : dlm m ≠ [] → val (dlm m) % 2 = 1 := fun h => by
  by_cases h0 : m = 0
  ·subst h0; exact absurd dlm_zero h
  ·exact (dlm_pos h0).2
theorem dex_nil (m x : Int) : dlm m = [] → dex m x = 0 := fun h => by
  have : m = 0 := dlm_nil_iff.1 (by rw [h]; rfl)
  subst this
  rfl
theorem wn_dlm (m : Int) : WN (wsg m) (dlm m) := ⟨limbs_nrm _, fun h => by
  by_cases h0 : m = 0
  ·subst h0; cases h
  ·exact (dlm_pos h0).1⟩

set_option maxHeartbeats 400000 in
theorem bad_impl (w : World) :
    Calls Tryz.prog 36 #[] w fun e w' => e = .returned (.tuple #[flv 3 false 0 0, .int .i64 16]) ∧ Kept 0 0 w w' := by
  go_enter Tryz.func36, Tryz.ntmps36
  go_wp2_with fail
  exact bodyPost_ret (v := .tuple #[flv 3 false 0 0, .int .i64 16]) (by simp [results, Tryz.results36, go_sem]) rfl ⟨rfl, (Kept.refl 0 0 w).alloc _⟩

set_option maxHeartbeats 400000 in
theorem bad_spec (w : World) :
    Calls Tryz.prog 59 #[] w fun e w' => e = .returned (.tuple #[flv 3 false 0 0, .int .i64 16]) ∧ Kept 0 0 w w' := by
  have k0 := (Kept.refl 0 0 w).alloc (flc 0 false 0 0 24)
  have q0 : (w.alloc (flc 0 false 0 0 24)).cell? ⟨w.heap.size, 0, none⟩ = some (.int .i64 0) := new_cell2 _ _ _ _ _ _ rfl rfl
  have q1 : (w.alloc (flc 0 false 0 0 24)).cell? ⟨w.heap.size, 1, none⟩ = some (.bool false) := new_cell2 _ _ _ _ _ _ rfl rfl
  have q2 : (w.alloc (flc 0 false 0 0 24)).cell? ⟨w.heap.size, 2, none⟩ = some (.int .i64 0) := new_cell2 _ _ _ _ _ _ rfl rfl
  have q3 : (w.alloc (flc 0 false 0 0 24)).cell? ⟨w.heap.size, 3, none⟩ = some (.int .i64 0) := new_cell2 _ _ _ _ _ _ rfl rfl
  have f0 : (w.alloc (flc 0 false 0 0 24)).frozen? ⟨w.heap.size, 0, none⟩ = false := new_loose2 _ _ _ _ _ rfl
  have f1 : (w.alloc (flc 0 false 0 0 24)).frozen? ⟨w.heap.size, 1, none⟩ = false := new_loose2 _ _ _ _ _ rfl
  have f2 : (w.alloc (flc 0 false 0 0 24)).frozen? ⟨w.heap.size, 2, none⟩ = false := new_loose2 _ _ _ _ _ rfl
  have f3 : (w.alloc (flc 0 false 0 0 24)).frozen? ⟨w.heap.size, 3, none⟩ = false := new_loose2 _ _ _ _ _ rfl
  go_enter Tryz.func59, Tryz.ntmps59
  go_wp2_with fail
  refine (l5nan_any _).mono ?_
  rintro e w1 ⟨rfl, rfl⟩
  have k1 := (Kept.refl 0 0 (w.alloc (flc 0 false 0 0 24))).alloc (flc 3 false 0 0 24)
  replace f0 := k1.loose0 (zbl q0) f0
  replace f1 := k1.loose0 (zbl q1) f1
  replace f2 := k1.loose0 (zbl q2) f2
  replace f3 := k1.loose0 (zbl q3) f3
  replace q0 := k1.cell0 q0
  replace q1 := k1.cell0 q1
  replace q2 := k1.cell0 q2
  replace q3 := k1.cell0 q3
  have KF := hide (((((k0.trans k1).setNew (p := ⟨w.heap.size, 0, none⟩) (by simp) (.int .i64 3)).setNew (p := ⟨w.heap.size, 1, none⟩) (by simp) (.bool false)).setNew (p := ⟨w.heap.size, 2, none⟩) (by simp) (.int .i64 0)).setNew (p := ⟨w.heap.size, 3, none⟩) (by simp) (.int .i64 0))
  clear k0 k1
  generalize (w.alloc (flc 0 false 0 0 24)).alloc (flc 3 false 0 0 24) = W at *
  go_wp2_with fail
  exact bodyPost_ret (v := .tuple #[flv 3 false 0 0, .int .i64 16]) (by simp [results, Tryz.results59, go_sem, q0, q1, q2, q3]) rfl ⟨rfl, unhide KF⟩

end Go.Proofs.YtepehpkmejjhiaaGreatDoor

