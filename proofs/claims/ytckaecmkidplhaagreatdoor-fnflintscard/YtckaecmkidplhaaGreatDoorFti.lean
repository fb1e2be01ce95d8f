/-
  Whole numbers of floats: FlToInt, the model's and the program's.
-/
import Derived.Test.YtckaecmkidplhaaGreatDoorFlRd
import Derived.Test.YtckaecmkidplhaaGreatDoorBY
import Derived.Deep.DeepCutAuto
namespace Go.Proofs.YtckaecmkidplhaaGreatDoor
open Go.RowKit
set_option linter.unusedVariables false
set_option maxRecDepth 8000
set_option linter.unusedSimpArgs false

/-- Whether a float is a number, and a mode is one. -/
def tiB (k : Int) (n : Bool) (m e mode : Int) : Bool := (flok k n m e && (k == 0 || k == 1)) && modeB mode
/-- A float, rounded to a whole number. -/
def tiM (k : Int) (n : Bool) (m e mode : Int) : Int := if k = 1 then rndM mode.toNat n m.toNat (e + 1) else 0
def tiS (k : Int) (n : Bool) (m e mode : Int) : Bool := tiB k n m e mode && wsg (tiM k n m e mode)
def tiL (k : Int) (n : Bool) (m e mode : Int) : List Int := if tiB k n m e mode = true then wlm (tiM k n m e mode) else []
theorem ti_no {k : Int} {n : Bool} {m e mode : Int} (h : tiB k n m e mode = false) : tiS k n m e mode = false ∧ tiL k n m e mode = [] := by
  unfold tiS tiL; rw [h]; exact ⟨rfl, rfl⟩
theorem ti_yes {k : Int} {n : Bool} {m e mode : Int} (h : tiB k n m e mode = true) : tiS k n m e mode = wsg (tiM k n m e mode) ∧ tiL k n m e mode = wlm (tiM k n m e mode) := by
  unfold tiS tiL; rw [h]; exact ⟨rfl, rfl⟩
theorem ti_num (n : Bool) {m : Int} (h : 1 ≤ m) (e : Int) (mode : Nat) : rndM mode (wsg (fM 1 n m)) (val (dlm (fM 1 n m))).toNat (dex (fM 1 n m) e - (0 - 1)) = rndM mode n m.toNat (e + 1) := by
  have ha : (fM 1 n m).natAbs = m.toNat := by unfold fM; cases n <;> simp <;> omega
  have hne : fM 1 n m ≠ 0 := by intro e0; rw [e0] at ha; simp at ha; omega
  have hs : wsg (fM 1 n m) = n := by unfold wsg fM; cases n <;> simp <;> omega
  have hv : (val (dlm (fM 1 n m))).toNat = m.toNat / 2 ^ tz m.toNat := by unfold dlm; rw [limbs_val, Int.toNat_natCast, ha]
  have hd : dex (fM 1 n m) e = e + (tz m.toNat : Int) := by unfold dex; rw [if_neg hne, ha]
  obtain ⟨q, hq⟩ := tz_form (n := m.toNat) (by omega)
  have hp : 0 < 2 ^ tz m.toNat := Nat.pow_pos (by decide)
  have hq2 : m.toNat / 2 ^ tz m.toNat = 2 * q + 1 := by
    have : m.toNat / 2 ^ tz m.toNat = (2 ^ tz m.toNat * (2 * q + 1)) / 2 ^ tz m.toNat := by rw [← hq]
    rw [this, Nat.mul_div_cancel_left _ hp]
  rw [hs, hv, hd, hq2]
  have e1 := sc_shift (2 * q + 1) (tz m.toNat) (e + 1)
  rw [Nat.mul_comm (2 * q + 1), ← hq] at e1
  unfold rndM
  rw [e1.1, e1.2, show e + (tz m.toNat : Int) - (0 - 1) = e + 1 + (tz m.toNat : Int) by omega]
theorem ti_len (n : Bool) {m e : Int} (h3 : 1 ≤ m) (h4 : m ≤ 9007199254740991) (h2 : e ≤ 971) (mode : Nat) : (limbs (rndN mode n (scN m.toNat (e + 1)) (scL m.toNat (e + 1)))).length ≤ 70 ∧ (limbs (scN m.toNat (e + 1))).length ≤ 69 := by
  have h5 : (limbs m.toNat).length ≤ 4 := by
    refine (limbs_length_le _ _).2 ?_
    rw [show (65536 : Int) ^ 4 = 18446744073709551616 by decide]
    omega
  have h6 := scN_len (limbs_lim m.toNat) (e + 1) 65 (by omega)
  rw [limbs_val, Int.toNat_natCast] at h6
  have h7 := rndN_len mode n (scN m.toNat (e + 1)) (scL m.toNat (e + 1))
  exact ⟨by omega, by omega⟩
set_option maxHeartbeats 2000000 in
theorem ftoint_impl_no (s : Bool) (k m x : Int) (mode : Int) (h : flok k s m x = false) (w : World) :
    Calls Tryz.prog 32 #[flv k s m x, .int .i64 mode] w fun e' w' => ∃ v', e' = .returned (.tuple #[.agg #[.bool (tiS k s m x mode), v'], .bool (tiB k s m x mode)]) ∧ Row .i64 true w.heap.size w'.heap.size w' v' (tiL k s m x mode) ∧ Kept 0 0 w w' := by
  obtain ⟨GS, hGS⟩ : ∃ y, tiS k s m x mode = y := ⟨_, rfl⟩
  obtain ⟨GL, hGL⟩ : ∃ y, tiL k s m x mode = y := ⟨_, rfl⟩
  obtain ⟨GB, hGB⟩ : ∃ y, tiB k s m x mode = y := ⟨_, rfl⟩
  rw [hGS, hGL, hGB]
  have HGS := hide hGS
  have HGL := hide hGL
  have HGB := hide hGB
  clear hGS hGL hGB
  have HH := hide h
  clear h
  have k0 : Kept 0 0 w ((w.alloc (.cells #[.int .i64 k, .bool s, .int .i64 m, .int .i64 x] 25)).alloc (.cells #[.bool false, .slice none 0 0] 40)) := (((Kept.refl 0 0 w).alloc (.cells #[.int .i64 k, .bool s, .int .i64 m, .int .i64 x] 25)).alloc (.cells #[.bool false, .slice none 0 0] 40))
  have p0 : ((w.alloc (.cells #[.int .i64 k, .bool s, .int .i64 m, .int .i64 x] 25)).alloc (.cells #[.bool false, .slice none 0 0] 40)).cell? ⟨w.heap.size, 0, none⟩ = some (.int .i64 k) := old_cell _ (new_cell2 _ _ _ _ _ _ (by simp) rfl)
  have p1 : ((w.alloc (.cells #[.int .i64 k, .bool s, .int .i64 m, .int .i64 x] 25)).alloc (.cells #[.bool false, .slice none 0 0] 40)).cell? ⟨w.heap.size, 1, none⟩ = some (.bool s) := old_cell _ (new_cell2 _ _ _ _ _ _ (by simp) rfl)
  have p2 : ((w.alloc (.cells #[.int .i64 k, .bool s, .int .i64 m, .int .i64 x] 25)).alloc (.cells #[.bool false, .slice none 0 0] 40)).cell? ⟨w.heap.size, 2, none⟩ = some (.int .i64 m) := old_cell _ (new_cell2 _ _ _ _ _ _ (by simp) rfl)
  have p3 : ((w.alloc (.cells #[.int .i64 k, .bool s, .int .i64 m, .int .i64 x] 25)).alloc (.cells #[.bool false, .slice none 0 0] 40)).cell? ⟨w.heap.size, 3, none⟩ = some (.int .i64 x) := old_cell _ (new_cell2 _ _ _ _ _ _ (by simp) rfl)
  have q0 : ((w.alloc (.cells #[.int .i64 k, .bool s, .int .i64 m, .int .i64 x] 25)).alloc (.cells #[.bool false, .slice none 0 0] 40)).cell? ⟨w.heap.size + 1, 0, none⟩ = some (.bool false) := new_cell2 _ _ _ _ _ _ (by simp) rfl
  have qf0 : ((w.alloc (.cells #[.int .i64 k, .bool s, .int .i64 m, .int .i64 x] 25)).alloc (.cells #[.bool false, .slice none 0 0] 40)).frozen? ⟨w.heap.size + 1, 0, none⟩ = false := new_loose2 _ _ _ _ _ (by simp)
  have q1 : ((w.alloc (.cells #[.int .i64 k, .bool s, .int .i64 m, .int .i64 x] 25)).alloc (.cells #[.bool false, .slice none 0 0] 40)).cell? ⟨w.heap.size + 1, 1, none⟩ = some (.slice none 0 0) := new_cell2 _ _ _ _ _ _ (by simp) rfl
  have qf1 : ((w.alloc (.cells #[.int .i64 k, .bool s, .int .i64 m, .int .i64 x] 25)).alloc (.cells #[.bool false, .slice none 0 0] 40)).frozen? ⟨w.heap.size + 1, 1, none⟩ = false := new_loose2 _ _ _ _ _ (by simp)
  have s0 : ((w.alloc (.cells #[.int .i64 k, .bool s, .int .i64 m, .int .i64 x] 25)).alloc (.cells #[.bool false, .slice none 0 0] 40)).heap.size = w.heap.size + 2 := by simp
  have K := hide (k0)
  clear k0
  have S0 := hide s0
  clear s0
  go_enter Tryz.func32, Tryz.ntmps32
  go_wp2_with fail
  generalize ((w.alloc (.cells #[.int .i64 k, .bool s, .int .i64 m, .int .i64 x] 25)).alloc (.cells #[.bool false, .slice none 0 0] 40)) = W at *
  refine (finiteOf_no k s m x (unhide HH) _).mono ?_
  rintro e w1 ⟨rfl, k1⟩
  replace qf0 := k1.loose0 (World.block_lt_of_cell? _ _ q0) qf0
  replace qf1 := k1.loose0 (World.block_lt_of_cell? _ _ q1) qf1
  replace p0 := k1.cell0 p0
  replace p1 := k1.cell0 p1
  replace p2 := k1.cell0 p2
  replace p3 := k1.cell0 p3
  replace q0 := k1.cell0 q0
  replace q1 := k1.cell0 q1
  replace K := hide ((unhide K).trans k1)
  have z2 := k1.size
  clear k1
  have HF : Hid (GS = false ∧ GL = [] ∧ GB = false) := by
    have hno : GB = false := by rw [← unhide HGB]; unfold tiB; rw [unhide HH]; rfl
    have hno' := hno
    rw [← unhide HGB] at hno'
    obtain ⟨b1, b2⟩ := ti_no hno'
    exact ⟨by rw [← unhide HGS, b1], by rw [← unhide HGL, b2], hno⟩
  have KF := hide (((unhide K).setNew (p := ⟨w.heap.size + 1, 0, none⟩) (by simp) (.bool false)).setNew (p := ⟨w.heap.size + 1, 1, none⟩) (by simp) (.slice none 0 0))
  clear K
  try go_wp2_with fail
  exact bodyPost_ret (v := .tuple #[.agg #[.bool false, .slice none 0 0], .bool false]) (by simp [results, Tryz.results32, go_sem, q0, q1]) rfl ⟨_, by rw [(unhide HF).1, (unhide HF).2.2], by rw [(unhide HF).2.1]; exact Row.nil _ _ _ _ _, unhide KF⟩

set_option maxHeartbeats 2000000 in
theorem ftoint_impl_inf (s : Bool) (mode : Int) (h : flok 2 s 0 0 = true) (w : World) :
    Calls Tryz.prog 32 #[flv 2 s 0 0, .int .i64 mode] w fun e' w' => ∃ v', e' = .returned (.tuple #[.agg #[.bool (tiS 2 s 0 0 mode), v'], .bool (tiB 2 s 0 0 mode)]) ∧ Row .i64 true w.heap.size w'.heap.size w' v' (tiL 2 s 0 0 mode) ∧ Kept 0 0 w w' := by
  obtain ⟨GS, hGS⟩ : ∃ y, tiS 2 s 0 0 mode = y := ⟨_, rfl⟩
  obtain ⟨GL, hGL⟩ : ∃ y, tiL 2 s 0 0 mode = y := ⟨_, rfl⟩
  obtain ⟨GB, hGB⟩ : ∃ y, tiB 2 s 0 0 mode = y := ⟨_, rfl⟩
  rw [hGS, hGL, hGB]
  have HGS := hide hGS
  have HGL := hide hGL
  have HGB := hide hGB
  clear hGS hGL hGB
  have HH := hide h
  clear h
  have k0 : Kept 0 0 w ((w.alloc (.cells #[.int .i64 2, .bool s, .int .i64 0, .int .i64 0] 25)).alloc (.cells #[.bool false, .slice none 0 0] 40)) := (((Kept.refl 0 0 w).alloc (.cells #[.int .i64 2, .bool s, .int .i64 0, .int .i64 0] 25)).alloc (.cells #[.bool false, .slice none 0 0] 40))
  have p0 : ((w.alloc (.cells #[.int .i64 2, .bool s, .int .i64 0, .int .i64 0] 25)).alloc (.cells #[.bool false, .slice none 0 0] 40)).cell? ⟨w.heap.size, 0, none⟩ = some (.int .i64 2) := old_cell _ (new_cell2 _ _ _ _ _ _ (by simp) rfl)
  have p1 : ((w.alloc (.cells #[.int .i64 2, .bool s, .int .i64 0, .int .i64 0] 25)).alloc (.cells #[.bool false, .slice none 0 0] 40)).cell? ⟨w.heap.size, 1, none⟩ = some (.bool s) := old_cell _ (new_cell2 _ _ _ _ _ _ (by simp) rfl)
  have p2 : ((w.alloc (.cells #[.int .i64 2, .bool s, .int .i64 0, .int .i64 0] 25)).alloc (.cells #[.bool false, .slice none 0 0] 40)).cell? ⟨w.heap.size, 2, none⟩ = some (.int .i64 0) := old_cell _ (new_cell2 _ _ _ _ _ _ (by simp) rfl)
  have p3 : ((w.alloc (.cells #[.int .i64 2, .bool s, .int .i64 0, .int .i64 0] 25)).alloc (.cells #[.bool false, .slice none 0 0] 40)).cell? ⟨w.heap.size, 3, none⟩ = some (.int .i64 0) := old_cell _ (new_cell2 _ _ _ _ _ _ (by simp) rfl)
  have q0 : ((w.alloc (.cells #[.int .i64 2, .bool s, .int .i64 0, .int .i64 0] 25)).alloc (.cells #[.bool false, .slice none 0 0] 40)).cell? ⟨w.heap.size + 1, 0, none⟩ = some (.bool false) := new_cell2 _ _ _ _ _ _ (by simp) rfl
  have qf0 : ((w.alloc (.cells #[.int .i64 2, .bool s, .int .i64 0, .int .i64 0] 25)).alloc (.cells #[.bool false, .slice none 0 0] 40)).frozen? ⟨w.heap.size + 1, 0, none⟩ = false := new_loose2 _ _ _ _ _ (by simp)
  have q1 : ((w.alloc (.cells #[.int .i64 2, .bool s, .int .i64 0, .int .i64 0] 25)).alloc (.cells #[.bool false, .slice none 0 0] 40)).cell? ⟨w.heap.size + 1, 1, none⟩ = some (.slice none 0 0) := new_cell2 _ _ _ _ _ _ (by simp) rfl
  have qf1 : ((w.alloc (.cells #[.int .i64 2, .bool s, .int .i64 0, .int .i64 0] 25)).alloc (.cells #[.bool false, .slice none 0 0] 40)).frozen? ⟨w.heap.size + 1, 1, none⟩ = false := new_loose2 _ _ _ _ _ (by simp)
  have s0 : ((w.alloc (.cells #[.int .i64 2, .bool s, .int .i64 0, .int .i64 0] 25)).alloc (.cells #[.bool false, .slice none 0 0] 40)).heap.size = w.heap.size + 2 := by simp
  have K := hide (k0)
  clear k0
  have S0 := hide s0
  clear s0
  go_enter Tryz.func32, Tryz.ntmps32
  go_wp2_with fail
  generalize ((w.alloc (.cells #[.int .i64 2, .bool s, .int .i64 0, .int .i64 0] 25)).alloc (.cells #[.bool false, .slice none 0 0] 40)) = W at *
  refine (finiteOf_inf s (unhide HH) _).mono ?_
  rintro e w1 ⟨rfl, k1⟩
  replace qf0 := k1.loose0 (World.block_lt_of_cell? _ _ q0) qf0
  replace qf1 := k1.loose0 (World.block_lt_of_cell? _ _ q1) qf1
  replace p0 := k1.cell0 p0
  replace p1 := k1.cell0 p1
  replace p2 := k1.cell0 p2
  replace p3 := k1.cell0 p3
  replace q0 := k1.cell0 q0
  replace q1 := k1.cell0 q1
  replace K := hide ((unhide K).trans k1)
  have z2 := k1.size
  clear k1
  have HF : Hid (GS = false ∧ GL = [] ∧ GB = false) := by
    have hno : GB = false := by rw [← unhide HGB]; unfold tiB; simp
    have hno' := hno
    rw [← unhide HGB] at hno'
    obtain ⟨b1, b2⟩ := ti_no hno'
    exact ⟨by rw [← unhide HGS, b1], by rw [← unhide HGL, b2], hno⟩
  have KF := hide (((unhide K).setNew (p := ⟨w.heap.size + 1, 0, none⟩) (by simp) (.bool false)).setNew (p := ⟨w.heap.size + 1, 1, none⟩) (by simp) (.slice none 0 0))
  clear K
  try go_wp2_with fail
  exact bodyPost_ret (v := .tuple #[.agg #[.bool false, .slice none 0 0], .bool false]) (by simp [results, Tryz.results32, go_sem, q0, q1]) rfl ⟨_, by rw [(unhide HF).1, (unhide HF).2.2], by rw [(unhide HF).2.1]; exact Row.nil _ _ _ _ _, unhide KF⟩

set_option maxHeartbeats 2000000 in
theorem ftoint_impl_nan (mode : Int) (h : flok 3 false 0 0 = true) (w : World) :
    Calls Tryz.prog 32 #[flv 3 false 0 0, .int .i64 mode] w fun e' w' => ∃ v', e' = .returned (.tuple #[.agg #[.bool (tiS 3 false 0 0 mode), v'], .bool (tiB 3 false 0 0 mode)]) ∧ Row .i64 true w.heap.size w'.heap.size w' v' (tiL 3 false 0 0 mode) ∧ Kept 0 0 w w' := by
  obtain ⟨GS, hGS⟩ : ∃ y, tiS 3 false 0 0 mode = y := ⟨_, rfl⟩
  obtain ⟨GL, hGL⟩ : ∃ y, tiL 3 false 0 0 mode = y := ⟨_, rfl⟩
  obtain ⟨GB, hGB⟩ : ∃ y, tiB 3 false 0 0 mode = y := ⟨_, rfl⟩
  rw [hGS, hGL, hGB]
  have HGS := hide hGS
  have HGL := hide hGL
  have HGB := hide hGB
  clear hGS hGL hGB
  have HH := hide h
  clear h
  have k0 : Kept 0 0 w ((w.alloc (.cells #[.int .i64 3, .bool false, .int .i64 0, .int .i64 0] 25)).alloc (.cells #[.bool false, .slice none 0 0] 40)) := (((Kept.refl 0 0 w).alloc (.cells #[.int .i64 3, .bool false, .int .i64 0, .int .i64 0] 25)).alloc (.cells #[.bool false, .slice none 0 0] 40))
  have p0 : ((w.alloc (.cells #[.int .i64 3, .bool false, .int .i64 0, .int .i64 0] 25)).alloc (.cells #[.bool false, .slice none 0 0] 40)).cell? ⟨w.heap.size, 0, none⟩ = some (.int .i64 3) := old_cell _ (new_cell2 _ _ _ _ _ _ (by simp) rfl)
  have p1 : ((w.alloc (.cells #[.int .i64 3, .bool false, .int .i64 0, .int .i64 0] 25)).alloc (.cells #[.bool false, .slice none 0 0] 40)).cell? ⟨w.heap.size, 1, none⟩ = some (.bool false) := old_cell _ (new_cell2 _ _ _ _ _ _ (by simp) rfl)
  have p2 : ((w.alloc (.cells #[.int .i64 3, .bool false, .int .i64 0, .int .i64 0] 25)).alloc (.cells #[.bool false, .slice none 0 0] 40)).cell? ⟨w.heap.size, 2, none⟩ = some (.int .i64 0) := old_cell _ (new_cell2 _ _ _ _ _ _ (by simp) rfl)
  have p3 : ((w.alloc (.cells #[.int .i64 3, .bool false, .int .i64 0, .int .i64 0] 25)).alloc (.cells #[.bool false, .slice none 0 0] 40)).cell? ⟨w.heap.size, 3, none⟩ = some (.int .i64 0) := old_cell _ (new_cell2 _ _ _ _ _ _ (by simp) rfl)
  have q0 : ((w.alloc (.cells #[.int .i64 3, .bool false, .int .i64 0, .int .i64 0] 25)).alloc (.cells #[.bool false, .slice none 0 0] 40)).cell? ⟨w.heap.size + 1, 0, none⟩ = some (.bool false) := new_cell2 _ _ _ _ _ _ (by simp) rfl
  have qf0 : ((w.alloc (.cells #[.int .i64 3, .bool false, .int .i64 0, .int .i64 0] 25)).alloc (.cells #[.bool false, .slice none 0 0] 40)).frozen? ⟨w.heap.size + 1, 0, none⟩ = false := new_loose2 _ _ _ _ _ (by simp)
  have q1 : ((w.alloc (.cells #[.int .i64 3, .bool false, .int .i64 0, .int .i64 0] 25)).alloc (.cells #[.bool false, .slice none 0 0] 40)).cell? ⟨w.heap.size + 1, 1, none⟩ = some (.slice none 0 0) := new_cell2 _ _ _ _ _ _ (by simp) rfl
  have qf1 : ((w.alloc (.cells #[.int .i64 3, .bool false, .int .i64 0, .int .i64 0] 25)).alloc (.cells #[.bool false, .slice none 0 0] 40)).frozen? ⟨w.heap.size + 1, 1, none⟩ = false := new_loose2 _ _ _ _ _ (by simp)
  have s0 : ((w.alloc (.cells #[.int .i64 3, .bool false, .int .i64 0, .int .i64 0] 25)).alloc (.cells #[.bool false, .slice none 0 0] 40)).heap.size = w.heap.size + 2 := by simp
  have K := hide (k0)
  clear k0
  have S0 := hide s0
  clear s0
  go_enter Tryz.func32, Tryz.ntmps32
  go_wp2_with fail
  generalize ((w.alloc (.cells #[.int .i64 3, .bool false, .int .i64 0, .int .i64 0] 25)).alloc (.cells #[.bool false, .slice none 0 0] 40)) = W at *
  refine (finiteOf_nan (unhide HH) _).mono ?_
  rintro e w1 ⟨rfl, k1⟩
  replace qf0 := k1.loose0 (World.block_lt_of_cell? _ _ q0) qf0
  replace qf1 := k1.loose0 (World.block_lt_of_cell? _ _ q1) qf1
  replace p0 := k1.cell0 p0
  replace p1 := k1.cell0 p1
  replace p2 := k1.cell0 p2
  replace p3 := k1.cell0 p3
  replace q0 := k1.cell0 q0
  replace q1 := k1.cell0 q1
  replace K := hide ((unhide K).trans k1)
  have z2 := k1.size
  clear k1
  have HF : Hid (GS = false ∧ GL = [] ∧ GB = false) := by
    have hno : GB = false := by rw [← unhide HGB]; unfold tiB; simp
    have hno' := hno
    rw [← unhide HGB] at hno'
    obtain ⟨b1, b2⟩ := ti_no hno'
    exact ⟨by rw [← unhide HGS, b1], by rw [← unhide HGL, b2], hno⟩
  have KF := hide (((unhide K).setNew (p := ⟨w.heap.size + 1, 0, none⟩) (by simp) (.bool false)).setNew (p := ⟨w.heap.size + 1, 1, none⟩) (by simp) (.slice none 0 0))
  clear K
  try go_wp2_with fail
  exact bodyPost_ret (v := .tuple #[.agg #[.bool false, .slice none 0 0], .bool false]) (by simp [results, Tryz.results32, go_sem, q0, q1]) rfl ⟨_, by rw [(unhide HF).1, (unhide HF).2.2], by rw [(unhide HF).2.1]; exact Row.nil _ _ _ _ _, unhide KF⟩

set_option maxHeartbeats 4000000 in
theorem ftoint_impl_num (s : Bool) (m x : Int) (mode : Int) (h : flok 1 s m x = true) (h1 : -1074 ≤ x) (h2 : x ≤ 971) (h3 : 1 ≤ m) (h4 : m ≤ 9007199254740991) (w : World) (T : TabB w) :
    Calls Tryz.prog 32 #[flv 1 s m x, .int .i64 mode] w fun e' w' => ∃ v', e' = .returned (.tuple #[.agg #[.bool (tiS 1 s m x mode), v'], .bool (tiB 1 s m x mode)]) ∧ Row .i64 true w.heap.size w'.heap.size w' v' (tiL 1 s m x mode) ∧ Kept 0 0 w w' := by
  obtain ⟨GS, hGS⟩ : ∃ y, tiS 1 s m x mode = y := ⟨_, rfl⟩
  obtain ⟨GL, hGL⟩ : ∃ y, tiL 1 s m x mode = y := ⟨_, rfl⟩
  obtain ⟨GB, hGB⟩ : ∃ y, tiB 1 s m x mode = y := ⟨_, rfl⟩
  rw [hGS, hGL, hGB]
  have HGS := hide hGS
  have HGL := hide hGL
  have HGB := hide hGB
  clear hGS hGL hGB
  have HH := hide h
  clear h
  have hmv := value_num s m x
  have mv := fun w => value_m s m x h3 h4 w
  obtain ⟨zs, hL⟩ : ∃ L, limbs m.toNat = L := ⟨_, rfl⟩
  have hn : Nrm zs := by rw [← hL]; exact limbs_nrm _
  have hV : (val zs).toNat = m.toNat := by rw [← hL, limbs_val, Int.toNat_natCast]
  have hnl : zs.length ≤ 4 := by
    rw [← hL]
    refine (limbs_length_le _ _).2 ?_
    rw [show (65536 : Int) ^ 4 = 18446744073709551616 by decide]
    omega
  rw [hL] at mv
  clear hL
  replace mv := hide mv
  have k0 : Kept 0 0 w ((w.alloc (.cells #[.int .i64 1, .bool s, .int .i64 m, .int .i64 x] 25)).alloc (.cells #[.bool false, .slice none 0 0] 40)) := (((Kept.refl 0 0 w).alloc (.cells #[.int .i64 1, .bool s, .int .i64 m, .int .i64 x] 25)).alloc (.cells #[.bool false, .slice none 0 0] 40))
  have p0 : ((w.alloc (.cells #[.int .i64 1, .bool s, .int .i64 m, .int .i64 x] 25)).alloc (.cells #[.bool false, .slice none 0 0] 40)).cell? ⟨w.heap.size, 0, none⟩ = some (.int .i64 1) := old_cell _ (new_cell2 _ _ _ _ _ _ (by simp) rfl)
  have p1 : ((w.alloc (.cells #[.int .i64 1, .bool s, .int .i64 m, .int .i64 x] 25)).alloc (.cells #[.bool false, .slice none 0 0] 40)).cell? ⟨w.heap.size, 1, none⟩ = some (.bool s) := old_cell _ (new_cell2 _ _ _ _ _ _ (by simp) rfl)
  have p2 : ((w.alloc (.cells #[.int .i64 1, .bool s, .int .i64 m, .int .i64 x] 25)).alloc (.cells #[.bool false, .slice none 0 0] 40)).cell? ⟨w.heap.size, 2, none⟩ = some (.int .i64 m) := old_cell _ (new_cell2 _ _ _ _ _ _ (by simp) rfl)
  have p3 : ((w.alloc (.cells #[.int .i64 1, .bool s, .int .i64 m, .int .i64 x] 25)).alloc (.cells #[.bool false, .slice none 0 0] 40)).cell? ⟨w.heap.size, 3, none⟩ = some (.int .i64 x) := old_cell _ (new_cell2 _ _ _ _ _ _ (by simp) rfl)
  have q0 : ((w.alloc (.cells #[.int .i64 1, .bool s, .int .i64 m, .int .i64 x] 25)).alloc (.cells #[.bool false, .slice none 0 0] 40)).cell? ⟨w.heap.size + 1, 0, none⟩ = some (.bool false) := new_cell2 _ _ _ _ _ _ (by simp) rfl
  have qf0 : ((w.alloc (.cells #[.int .i64 1, .bool s, .int .i64 m, .int .i64 x] 25)).alloc (.cells #[.bool false, .slice none 0 0] 40)).frozen? ⟨w.heap.size + 1, 0, none⟩ = false := new_loose2 _ _ _ _ _ (by simp)
  have q1 : ((w.alloc (.cells #[.int .i64 1, .bool s, .int .i64 m, .int .i64 x] 25)).alloc (.cells #[.bool false, .slice none 0 0] 40)).cell? ⟨w.heap.size + 1, 1, none⟩ = some (.slice none 0 0) := new_cell2 _ _ _ _ _ _ (by simp) rfl
  have qf1 : ((w.alloc (.cells #[.int .i64 1, .bool s, .int .i64 m, .int .i64 x] 25)).alloc (.cells #[.bool false, .slice none 0 0] 40)).frozen? ⟨w.heap.size + 1, 1, none⟩ = false := new_loose2 _ _ _ _ _ (by simp)
  have s0 : ((w.alloc (.cells #[.int .i64 1, .bool s, .int .i64 m, .int .i64 x] 25)).alloc (.cells #[.bool false, .slice none 0 0] 40)).heap.size = w.heap.size + 2 := by simp
  have K := hide (k0)
  clear k0
  have S0 := hide s0
  clear s0
  go_enter Tryz.func32, Tryz.ntmps32
  go_wp2_with fail
  generalize ((w.alloc (.cells #[.int .i64 1, .bool s, .int .i64 m, .int .i64 x] 25)).alloc (.cells #[.bool false, .slice none 0 0] 40)) = W at *
  refine (finiteOf_num s m x (unhide HH) _).mono ?_
  rintro e w1 ⟨rfl, k1⟩
  replace qf0 := k1.loose0 (World.block_lt_of_cell? _ _ q0) qf0
  replace qf1 := k1.loose0 (World.block_lt_of_cell? _ _ q1) qf1
  replace p0 := k1.cell0 p0
  replace p1 := k1.cell0 p1
  replace p2 := k1.cell0 p2
  replace p3 := k1.cell0 p3
  replace q0 := k1.cell0 q0
  replace q1 := k1.cell0 q1
  replace K := hide ((unhide K).trans k1)
  have z2 := k1.size
  clear k1
  go_wp2_with fail
  refine (isMode_impl mode _).mono ?_
  rintro e w5 ⟨rfl, rfl⟩
  cases hm : modeB mode
  · have HF : Hid (GS = false ∧ GL = [] ∧ GB = false) := by
      have hno : GB = false := by rw [← unhide HGB]; unfold tiB; rw [hm]; simp
      have hno' := hno
      rw [← unhide HGB] at hno'
      obtain ⟨b1, b2⟩ := ti_no hno'
      exact ⟨by rw [← unhide HGS, b1], by rw [← unhide HGL, b2], hno⟩
    have KF := hide (((unhide K).setNew (p := ⟨w.heap.size + 1, 0, none⟩) (by simp) (.bool false)).setNew (p := ⟨w.heap.size + 1, 1, none⟩) (by simp) (.slice none 0 0))
    clear K
    try go_wp2_with fail
    exact bodyPost_ret (v := .tuple #[.agg #[.bool false, .slice none 0 0], .bool false]) (by simp [results, Tryz.results32, go_sem, q0, q1]) rfl ⟨_, by rw [(unhide HF).1, (unhide HF).2.2], by rw [(unhide HF).2.1]; exact Row.nil _ _ _ _ _, unhide KF⟩
  have hmm : 0 ≤ mode ∧ mode ≤ 4 := by unfold modeB at hm; simpa using hm
  have hB : tiB 1 s m x mode = true := by unfold tiB; rw [unhide HH, hm]; rfl
  obtain ⟨y1, y2⟩ := ti_yes hB
  rw [unhide HGS] at y1
  rw [unhide HGL] at y2
  have HT : Hid (GB = true) := by show _ = _; rw [← unhide HGB]; exact hB
  clear hm hB
  go_wp2_with fail
  refine (unhide mv _).mono ?_
  rintro e w3 ⟨v3, rfl, o3, k3⟩
  replace qf0 := k3.loose0 (World.block_lt_of_cell? _ _ q0) qf0
  replace qf1 := k3.loose0 (World.block_lt_of_cell? _ _ q1) qf1
  replace p0 := k3.cell0 p0
  replace p1 := k3.cell0 p1
  replace p2 := k3.cell0 p2
  replace p3 := k3.cell0 p3
  replace q0 := k3.cell0 q0
  replace q1 := k3.cell0 q1
  replace K := hide ((unhide K).trans k3)
  have z4 := k3.size
  clear k3
  have l3 := o3.lt
  obtain ⟨nd, dd, ee⟩ := new_dya s x 93 o3
  have kn := (Kept.refl 0 0 w3).alloc (.cells #[v3, .bool s, .int .i64 x] 93)
  obtain ⟨a3, c3, hv⟩ := own_slice o3
  subst hv
  replace qf0 := kn.loose0 (World.block_lt_of_cell? _ _ q0) qf0
  replace qf1 := kn.loose0 (World.block_lt_of_cell? _ _ q1) qf1
  replace p0 := kn.cell0 p0
  replace p1 := kn.cell0 p1
  replace p2 := kn.cell0 p2
  replace p3 := kn.cell0 p3
  replace q0 := kn.cell0 q0
  replace q1 := kn.cell0 q1
  replace K := hide ((unhide K).trans kn)
  have z5 := kn.size
  clear kn o3
  skip
  go_wp2_with fail
  generalize w3.alloc (.cells #[.slice a3 zs.length c3, .bool s, .int .i64 x] 93) = W9 at *
  obtain ⟨H, hH⟩ : ∃ y, scN (val zs).toNat (x - (0 - 1)) = y := ⟨_, rfl⟩
  obtain ⟨L, hL⟩ : ∃ y, scL (val zs).toNat (x - (0 - 1)) = y := ⟨_, rfl⟩
  obtain ⟨R, hR⟩ : ∃ y, rndN mode.toNat s H L = y := ⟨_, rfl⟩
  have hlen := ti_len s h3 h4 h2 mode.toNat
  have ek : x + 1 = x - (0 - 1) := by omega
  rw [ek, ← hV, hH, hL, hR] at hlen
  have hMR : tiM 1 s m x mode = wval s (limbs R) := by unfold tiM rndM; rw [if_pos rfl, ek, ← hV, hH, hL, hR]
  rw [hMR] at y1 y2
  have hy1 : (decide ((limbs R).length ≤ 100) && (s && decide (0 < (limbs R).length))) = GS := by
    rw [decide_eq_true (show (limbs R).length ≤ 100 by omega), Bool.true_and, y1]
    exact (wsg_wval s R).symm
  have hy2 : tell (limbs R) = GL := by
    unfold tell
    rw [if_pos (show (limbs R).length ≤ 100 by omega), y2, wlm_rnd]
  have hy3 : decide ((limbs R).length ≤ 100) = true := decide_eq_true (by omega)
  have mc := cut_impl _ nd dd ee hn (by omega) (by have := unhide S0; omega) 0 (by omega) (by omega) (by omega) (by omega) (T.kept (unhide K))
  rw [hH, hL] at mc
  clear hH hL hMR y1 y2
  refine mc.mono ?_
  rintro e w6 ⟨u6, rfl, o6, m6⟩
  clear mc
  have hS : ∀ i, (Value.slice a3 zs.length c3).ownBlock = some i → w.heap.size + 2 ≤ i := fun i e => by have := (l3 _ e).1; have := unhide S0; omega
  have nS : ¬ (Value.slice a3 zs.length c3).ownBlock = some (w.heap.size + 1) := fun e => by have := hS _ e; omega
  replace qf0 := m6.loose (a := ⟨w.heap.size + 1, 0, none⟩) nS (World.block_lt_of_cell? _ _ q0) qf0
  replace qf1 := m6.loose (a := ⟨w.heap.size + 1, 1, none⟩) nS (World.block_lt_of_cell? _ _ q1) qf1
  replace q0 := m6.cell (a := ⟨w.heap.size + 1, 0, none⟩) nS q0
  replace q1 := m6.cell (a := ⟨w.heap.size + 1, 1, none⟩) nS q1
  replace K := hide ((unhide K).mod m6 (fun i e => by have := hS i e; omega))
  have z_m6 := m6.size
  clear m6 hS nS
  clear nd dd ee p0 p1 p2 p3
  obtain ⟨a6, c6, hv⟩ := Row.form' o6.row
  subst hv
  have l6 := fun i (e : (Value.slice a6 (limbs H).length c6).ownBlock = some i) => o6.lt e
  obtain ⟨n7, d7, e7, m7⟩ := new_half s 0 L 109 o6
  have kn := (Kept.refl 0 0 w6).alloc (.cells #[.slice a6 (limbs H).length c6, .bool s, .int .i64 0, .bool L] 109)
  have z7 : (w6.alloc (.cells #[.slice a6 (limbs H).length c6, .bool s, .int .i64 0, .bool L] 109)).heap.size = w6.heap.size + 1 := by simp
  replace qf0 := kn.loose0 (World.block_lt_of_cell? _ _ q0) qf0
  replace qf1 := kn.loose0 (World.block_lt_of_cell? _ _ q1) qf1
  replace q0 := kn.cell0 q0
  replace q1 := kn.cell0 q1
  replace K := hide ((unhide K).trans kn)
  have z6 := kn.size
  clear kn o6
  go_wp2_with fail
  generalize w6.alloc (.cells #[.slice a6 (limbs H).length c6, .bool s, .int .i64 0, .bool L] 109) = W7 at *
  have hr := rounded_impl _ n7 (limbs_nrm _) (by omega) d7 e7 m7 (by have := unhide S0; omega) mode (by omega) (by omega)
  rw [limbs_val, Int.toNat_natCast, hR] at hr
  refine hr.mono ?_
  rintro e w9 ⟨u9, rfl, o9, m9⟩
  clear hr hR
  have hS : ∀ i, Own1 w6.heap.size (.slice a6 (limbs H).length c6) i → w.heap.size + 2 ≤ i := fun i e => e.elim (fun e => by have := unhide S0; omega) (fun e => by have := (l6 _ e).1; have := unhide S0; omega)
  have nS : ¬ Own1 w6.heap.size (.slice a6 (limbs H).length c6) (w.heap.size + 1) := fun e => by have := hS _ e; omega
  replace qf0 := m9.loose (a := ⟨w.heap.size + 1, 0, none⟩) nS (World.block_lt_of_cell? _ _ q0) qf0
  replace qf1 := m9.loose (a := ⟨w.heap.size + 1, 1, none⟩) nS (World.block_lt_of_cell? _ _ q1) qf1
  replace q0 := m9.cell (a := ⟨w.heap.size + 1, 0, none⟩) nS q0
  replace q1 := m9.cell (a := ⟨w.heap.size + 1, 1, none⟩) nS q1
  replace K := hide ((unhide K).mod m9 (fun i e => by have := hS i e; omega))
  have z_m9 := m9.size
  clear m9 hS nS
  clear n7 d7 e7 m7 l6
  obtain ⟨a9, c9, hv⟩ := Row.form' o9.row
  subst hv
  have l9 := fun i (e : (Value.slice a9 (limbs R).length c9).ownBlock = some i) => o9.lt e
  obtain ⟨nA, dA, eA⟩ := new_dyaA s 0 93 o9
  have kn := (Kept.refl 0 0 w9).alloc (.cells #[.slice a9 (limbs R).length c9, .bool s, .int .i64 0] 93)
  have zA : (w9.alloc (.cells #[.slice a9 (limbs R).length c9, .bool s, .int .i64 0] 93)).heap.size = w9.heap.size + 1 := by simp
  replace qf0 := kn.loose0 (World.block_lt_of_cell? _ _ q0) qf0
  replace qf1 := kn.loose0 (World.block_lt_of_cell? _ _ q1) qf1
  replace q0 := kn.cell0 q0
  replace q1 := kn.cell0 q1
  replace K := hide ((unhide K).trans kn)
  have z7 := kn.size
  clear kn o9
  go_wp2_with fail
  generalize w9.alloc (.cells #[.slice a9 (limbs R).length c9, .bool s, .int .i64 0] 93) = WA at *
  have ht := toldSigned_work _ nA.work dA
  rw [hy1, hy2, hy3] at ht
  refine (ht).mono ?_
  rintro e w8 ⟨v7, rfl, r7, k8⟩
  replace qf0 := k8.loose0 (World.block_lt_of_cell? _ _ q0) qf0
  replace qf1 := k8.loose0 (World.block_lt_of_cell? _ _ q1) qf1
  replace q0 := k8.cell0 q0
  replace q1 := k8.cell0 q1
  replace K := hide ((unhide K).trans k8)
  have z9 := k8.size
  clear k8
  clear ht hy1 hy2 hy3 nA dA eA l9
  obtain ⟨a7, c7, hv⟩ := Row.form' r7
  subst hv
  have RF := hide (((r7.set_other (p := ⟨w.heap.size + 1, 0, none⟩) (.inl (by have := unhide S0; dsimp only; omega)) (.bool GS)).set_other (p := ⟨w.heap.size + 1, 1, none⟩) (.inl (by have := unhide S0; dsimp only; omega)) (.slice a7 GL.length c7)).tight.wider (lo' := w.heap.size) (by have := unhide S0; omega) (Nat.le_refl _))
  have KF := hide (((unhide K).setNew (p := ⟨w.heap.size + 1, 0, none⟩) (by simp) (.bool GS)).setNew (p := ⟨w.heap.size + 1, 1, none⟩) (by simp) (.slice a7 GL.length c7))
  clear r7 K
  try go_wp2_with fail
  exact bodyPost_ret (v := .tuple #[.agg #[.bool GS, .slice a7 GL.length c7], .bool true]) (by simp [results, Tryz.results32, go_sem, q0, q1]) rfl ⟨_, by rw [unhide HT], unhide RF, unhide KF⟩

set_option maxHeartbeats 4000000 in
theorem ftoint_impl_nought (s : Bool) (mode : Int) (h : flok 0 s 0 0 = true) (w : World) (T : TabB w) :
    Calls Tryz.prog 32 #[flv 0 s 0 0, .int .i64 mode] w fun e' w' => ∃ v', e' = .returned (.tuple #[.agg #[.bool (tiS 0 s 0 0 mode), v'], .bool (tiB 0 s 0 0 mode)]) ∧ Row .i64 true w.heap.size w'.heap.size w' v' (tiL 0 s 0 0 mode) ∧ Kept 0 0 w w' := by
  obtain ⟨GS, hGS⟩ : ∃ y, tiS 0 s 0 0 mode = y := ⟨_, rfl⟩
  obtain ⟨GL, hGL⟩ : ∃ y, tiL 0 s 0 0 mode = y := ⟨_, rfl⟩
  obtain ⟨GB, hGB⟩ : ∃ y, tiB 0 s 0 0 mode = y := ⟨_, rfl⟩
  rw [hGS, hGL, hGB]
  have HGS := hide hGS
  have HGL := hide hGL
  have HGB := hide hGB
  clear hGS hGL hGB
  have HH := hide h
  clear h
  have hmv := value_nought s 0 0
  have mv := fun w => value_n s w
  obtain ⟨zs, hL⟩ : ∃ L : List Int, [] = L := ⟨_, rfl⟩
  have hn : Nrm zs := by rw [← hL, ← limbs_zero]; exact limbs_nrm 0
  have hV : (val zs).toNat = 0 := by rw [← hL]; rfl
  have hnl : zs.length ≤ 4 := by rw [← hL]; decide
  rw [hL] at mv
  clear hL
  replace mv := hide mv
  have k0 : Kept 0 0 w ((w.alloc (.cells #[.int .i64 0, .bool s, .int .i64 0, .int .i64 0] 25)).alloc (.cells #[.bool false, .slice none 0 0] 40)) := (((Kept.refl 0 0 w).alloc (.cells #[.int .i64 0, .bool s, .int .i64 0, .int .i64 0] 25)).alloc (.cells #[.bool false, .slice none 0 0] 40))
  have p0 : ((w.alloc (.cells #[.int .i64 0, .bool s, .int .i64 0, .int .i64 0] 25)).alloc (.cells #[.bool false, .slice none 0 0] 40)).cell? ⟨w.heap.size, 0, none⟩ = some (.int .i64 0) := old_cell _ (new_cell2 _ _ _ _ _ _ (by simp) rfl)
  have p1 : ((w.alloc (.cells #[.int .i64 0, .bool s, .int .i64 0, .int .i64 0] 25)).alloc (.cells #[.bool false, .slice none 0 0] 40)).cell? ⟨w.heap.size, 1, none⟩ = some (.bool s) := old_cell _ (new_cell2 _ _ _ _ _ _ (by simp) rfl)
  have p2 : ((w.alloc (.cells #[.int .i64 0, .bool s, .int .i64 0, .int .i64 0] 25)).alloc (.cells #[.bool false, .slice none 0 0] 40)).cell? ⟨w.heap.size, 2, none⟩ = some (.int .i64 0) := old_cell _ (new_cell2 _ _ _ _ _ _ (by simp) rfl)
  have p3 : ((w.alloc (.cells #[.int .i64 0, .bool s, .int .i64 0, .int .i64 0] 25)).alloc (.cells #[.bool false, .slice none 0 0] 40)).cell? ⟨w.heap.size, 3, none⟩ = some (.int .i64 0) := old_cell _ (new_cell2 _ _ _ _ _ _ (by simp) rfl)
  have q0 : ((w.alloc (.cells #[.int .i64 0, .bool s, .int .i64 0, .int .i64 0] 25)).alloc (.cells #[.bool false, .slice none 0 0] 40)).cell? ⟨w.heap.size + 1, 0, none⟩ = some (.bool false) := new_cell2 _ _ _ _ _ _ (by simp) rfl
  have qf0 : ((w.alloc (.cells #[.int .i64 0, .bool s, .int .i64 0, .int .i64 0] 25)).alloc (.cells #[.bool false, .slice none 0 0] 40)).frozen? ⟨w.heap.size + 1, 0, none⟩ = false := new_loose2 _ _ _ _ _ (by simp)
  have q1 : ((w.alloc (.cells #[.int .i64 0, .bool s, .int .i64 0, .int .i64 0] 25)).alloc (.cells #[.bool false, .slice none 0 0] 40)).cell? ⟨w.heap.size + 1, 1, none⟩ = some (.slice none 0 0) := new_cell2 _ _ _ _ _ _ (by simp) rfl
  have qf1 : ((w.alloc (.cells #[.int .i64 0, .bool s, .int .i64 0, .int .i64 0] 25)).alloc (.cells #[.bool false, .slice none 0 0] 40)).frozen? ⟨w.heap.size + 1, 1, none⟩ = false := new_loose2 _ _ _ _ _ (by simp)
  have s0 : ((w.alloc (.cells #[.int .i64 0, .bool s, .int .i64 0, .int .i64 0] 25)).alloc (.cells #[.bool false, .slice none 0 0] 40)).heap.size = w.heap.size + 2 := by simp
  have K := hide (k0)
  clear k0
  have S0 := hide s0
  clear s0
  go_enter Tryz.func32, Tryz.ntmps32
  go_wp2_with fail
  generalize ((w.alloc (.cells #[.int .i64 0, .bool s, .int .i64 0, .int .i64 0] 25)).alloc (.cells #[.bool false, .slice none 0 0] 40)) = W at *
  refine (finiteOf_nought s (unhide HH) _).mono ?_
  rintro e w1 ⟨rfl, k1⟩
  replace qf0 := k1.loose0 (World.block_lt_of_cell? _ _ q0) qf0
  replace qf1 := k1.loose0 (World.block_lt_of_cell? _ _ q1) qf1
  replace p0 := k1.cell0 p0
  replace p1 := k1.cell0 p1
  replace p2 := k1.cell0 p2
  replace p3 := k1.cell0 p3
  replace q0 := k1.cell0 q0
  replace q1 := k1.cell0 q1
  replace K := hide ((unhide K).trans k1)
  have z2 := k1.size
  clear k1
  go_wp2_with fail
  refine (isMode_impl mode _).mono ?_
  rintro e w5 ⟨rfl, rfl⟩
  cases hm : modeB mode
  · have HF : Hid (GS = false ∧ GL = [] ∧ GB = false) := by
      have hno : GB = false := by rw [← unhide HGB]; unfold tiB; rw [hm]; simp
      have hno' := hno
      rw [← unhide HGB] at hno'
      obtain ⟨b1, b2⟩ := ti_no hno'
      exact ⟨by rw [← unhide HGS, b1], by rw [← unhide HGL, b2], hno⟩
    have KF := hide (((unhide K).setNew (p := ⟨w.heap.size + 1, 0, none⟩) (by simp) (.bool false)).setNew (p := ⟨w.heap.size + 1, 1, none⟩) (by simp) (.slice none 0 0))
    clear K
    try go_wp2_with fail
    exact bodyPost_ret (v := .tuple #[.agg #[.bool false, .slice none 0 0], .bool false]) (by simp [results, Tryz.results32, go_sem, q0, q1]) rfl ⟨_, by rw [(unhide HF).1, (unhide HF).2.2], by rw [(unhide HF).2.1]; exact Row.nil _ _ _ _ _, unhide KF⟩
  have hmm : 0 ≤ mode ∧ mode ≤ 4 := by unfold modeB at hm; simpa using hm
  have hB : tiB 0 s 0 0 mode = true := by unfold tiB; rw [unhide HH, hm]; rfl
  obtain ⟨y1, y2⟩ := ti_yes hB
  rw [unhide HGS] at y1
  rw [unhide HGL] at y2
  have HT : Hid (GB = true) := by show _ = _; rw [← unhide HGB]; exact hB
  clear hm hB
  go_wp2_with fail
  refine (unhide mv _).mono ?_
  rintro e w3 ⟨v3, rfl, o3, k3⟩
  replace qf0 := k3.loose0 (World.block_lt_of_cell? _ _ q0) qf0
  replace qf1 := k3.loose0 (World.block_lt_of_cell? _ _ q1) qf1
  replace p0 := k3.cell0 p0
  replace p1 := k3.cell0 p1
  replace p2 := k3.cell0 p2
  replace p3 := k3.cell0 p3
  replace q0 := k3.cell0 q0
  replace q1 := k3.cell0 q1
  replace K := hide ((unhide K).trans k3)
  have z4 := k3.size
  clear k3
  have l3 := o3.lt
  obtain ⟨nd, dd, ee⟩ := new_dya s 0 93 o3
  have kn := (Kept.refl 0 0 w3).alloc (.cells #[v3, .bool s, .int .i64 0] 93)
  obtain ⟨a3, c3, hv⟩ := own_slice o3
  subst hv
  replace qf0 := kn.loose0 (World.block_lt_of_cell? _ _ q0) qf0
  replace qf1 := kn.loose0 (World.block_lt_of_cell? _ _ q1) qf1
  replace p0 := kn.cell0 p0
  replace p1 := kn.cell0 p1
  replace p2 := kn.cell0 p2
  replace p3 := kn.cell0 p3
  replace q0 := kn.cell0 q0
  replace q1 := kn.cell0 q1
  replace K := hide ((unhide K).trans kn)
  have z5 := kn.size
  clear kn o3
  skip
  go_wp2_with fail
  generalize w3.alloc (.cells #[.slice a3 zs.length c3, .bool s, .int .i64 0] 93) = W9 at *
  obtain ⟨H, hH⟩ : ∃ y, scN (val zs).toNat (0 - (0 - 1)) = y := ⟨_, rfl⟩
  obtain ⟨L, hL⟩ : ∃ y, scL (val zs).toNat (0 - (0 - 1)) = y := ⟨_, rfl⟩
  obtain ⟨R, hR⟩ : ∃ y, rndN mode.toNat s H L = y := ⟨_, rfl⟩
  have hr0 := rnd_zero (0 - (0 - 1)) mode.toNat s
  have hR0 : R = 0 := by rw [← hR, ← hH, ← hL, hV]; exact hr0.2
  have hH0 : H = 0 := by rw [← hH, hV]; unfold scN; split <;> simp
  have hlen : (limbs R).length ≤ 70 ∧ (limbs H).length ≤ 69 := by rw [hR0, hH0, limbs_zero]; decide
  have hMR : tiM 0 s 0 0 mode = wval s (limbs R) := by rw [hR0, limbs_zero, wval_nil]; rfl
  clear hr0 hR0 hH0
  rw [hMR] at y1 y2
  have hy1 : (decide ((limbs R).length ≤ 100) && (s && decide (0 < (limbs R).length))) = GS := by
    rw [decide_eq_true (show (limbs R).length ≤ 100 by omega), Bool.true_and, y1]
    exact (wsg_wval s R).symm
  have hy2 : tell (limbs R) = GL := by
    unfold tell
    rw [if_pos (show (limbs R).length ≤ 100 by omega), y2, wlm_rnd]
  have hy3 : decide ((limbs R).length ≤ 100) = true := decide_eq_true (by omega)
  have mc := cut_impl _ nd dd ee hn (by omega) (by have := unhide S0; omega) 0 (by omega) (by omega) (by omega) (by omega) (T.kept (unhide K))
  rw [hH, hL] at mc
  clear hH hL hMR y1 y2
  refine mc.mono ?_
  rintro e w6 ⟨u6, rfl, o6, m6⟩
  clear mc
  have hS : ∀ i, (Value.slice a3 zs.length c3).ownBlock = some i → w.heap.size + 2 ≤ i := fun i e => by have := (l3 _ e).1; have := unhide S0; omega
  have nS : ¬ (Value.slice a3 zs.length c3).ownBlock = some (w.heap.size + 1) := fun e => by have := hS _ e; omega
  replace qf0 := m6.loose (a := ⟨w.heap.size + 1, 0, none⟩) nS (World.block_lt_of_cell? _ _ q0) qf0
  replace qf1 := m6.loose (a := ⟨w.heap.size + 1, 1, none⟩) nS (World.block_lt_of_cell? _ _ q1) qf1
  replace q0 := m6.cell (a := ⟨w.heap.size + 1, 0, none⟩) nS q0
  replace q1 := m6.cell (a := ⟨w.heap.size + 1, 1, none⟩) nS q1
  replace K := hide ((unhide K).mod m6 (fun i e => by have := hS i e; omega))
  have z_m6 := m6.size
  clear m6 hS nS
  clear nd dd ee p0 p1 p2 p3
  obtain ⟨a6, c6, hv⟩ := Row.form' o6.row
  subst hv
  have l6 := fun i (e : (Value.slice a6 (limbs H).length c6).ownBlock = some i) => o6.lt e
  obtain ⟨n7, d7, e7, m7⟩ := new_half s 0 L 109 o6
  have kn := (Kept.refl 0 0 w6).alloc (.cells #[.slice a6 (limbs H).length c6, .bool s, .int .i64 0, .bool L] 109)
  have z7 : (w6.alloc (.cells #[.slice a6 (limbs H).length c6, .bool s, .int .i64 0, .bool L] 109)).heap.size = w6.heap.size + 1 := by simp
  replace qf0 := kn.loose0 (World.block_lt_of_cell? _ _ q0) qf0
  replace qf1 := kn.loose0 (World.block_lt_of_cell? _ _ q1) qf1
  replace q0 := kn.cell0 q0
  replace q1 := kn.cell0 q1
  replace K := hide ((unhide K).trans kn)
  have z6 := kn.size
  clear kn o6
  go_wp2_with fail
  generalize w6.alloc (.cells #[.slice a6 (limbs H).length c6, .bool s, .int .i64 0, .bool L] 109) = W7 at *
  have hr := rounded_impl _ n7 (limbs_nrm _) (by omega) d7 e7 m7 (by have := unhide S0; omega) mode (by omega) (by omega)
  rw [limbs_val, Int.toNat_natCast, hR] at hr
  refine hr.mono ?_
  rintro e w9 ⟨u9, rfl, o9, m9⟩
  clear hr hR
  have hS : ∀ i, Own1 w6.heap.size (.slice a6 (limbs H).length c6) i → w.heap.size + 2 ≤ i := fun i e => e.elim (fun e => by have := unhide S0; omega) (fun e => by have := (l6 _ e).1; have := unhide S0; omega)
  have nS : ¬ Own1 w6.heap.size (.slice a6 (limbs H).length c6) (w.heap.size + 1) := fun e => by have := hS _ e; omega
  replace qf0 := m9.loose (a := ⟨w.heap.size + 1, 0, none⟩) nS (World.block_lt_of_cell? _ _ q0) qf0
  replace qf1 := m9.loose (a := ⟨w.heap.size + 1, 1, none⟩) nS (World.block_lt_of_cell? _ _ q1) qf1
  replace q0 := m9.cell (a := ⟨w.heap.size + 1, 0, none⟩) nS q0
  replace q1 := m9.cell (a := ⟨w.heap.size + 1, 1, none⟩) nS q1
  replace K := hide ((unhide K).mod m9 (fun i e => by have := hS i e; omega))
  have z_m9 := m9.size
  clear m9 hS nS
  clear n7 d7 e7 m7 l6
  obtain ⟨a9, c9, hv⟩ := Row.form' o9.row
  subst hv
  have l9 := fun i (e : (Value.slice a9 (limbs R).length c9).ownBlock = some i) => o9.lt e
  obtain ⟨nA, dA, eA⟩ := new_dyaA s 0 93 o9
  have kn := (Kept.refl 0 0 w9).alloc (.cells #[.slice a9 (limbs R).length c9, .bool s, .int .i64 0] 93)
  have zA : (w9.alloc (.cells #[.slice a9 (limbs R).length c9, .bool s, .int .i64 0] 93)).heap.size = w9.heap.size + 1 := by simp
  replace qf0 := kn.loose0 (World.block_lt_of_cell? _ _ q0) qf0
  replace qf1 := kn.loose0 (World.block_lt_of_cell? _ _ q1) qf1
  replace q0 := kn.cell0 q0
  replace q1 := kn.cell0 q1
  replace K := hide ((unhide K).trans kn)
  have z7 := kn.size
  clear kn o9
  go_wp2_with fail
  generalize w9.alloc (.cells #[.slice a9 (limbs R).length c9, .bool s, .int .i64 0] 93) = WA at *
  have ht := toldSigned_work _ nA.work dA
  rw [hy1, hy2, hy3] at ht
  refine (ht).mono ?_
  rintro e w8 ⟨v7, rfl, r7, k8⟩
  replace qf0 := k8.loose0 (World.block_lt_of_cell? _ _ q0) qf0
  replace qf1 := k8.loose0 (World.block_lt_of_cell? _ _ q1) qf1
  replace q0 := k8.cell0 q0
  replace q1 := k8.cell0 q1
  replace K := hide ((unhide K).trans k8)
  have z9 := k8.size
  clear k8
  clear ht hy1 hy2 hy3 nA dA eA l9
  obtain ⟨a7, c7, hv⟩ := Row.form' r7
  subst hv
  have RF := hide (((r7.set_other (p := ⟨w.heap.size + 1, 0, none⟩) (.inl (by have := unhide S0; dsimp only; omega)) (.bool GS)).set_other (p := ⟨w.heap.size + 1, 1, none⟩) (.inl (by have := unhide S0; dsimp only; omega)) (.slice a7 GL.length c7)).tight.wider (lo' := w.heap.size) (by have := unhide S0; omega) (Nat.le_refl _))
  have KF := hide (((unhide K).setNew (p := ⟨w.heap.size + 1, 0, none⟩) (by simp) (.bool GS)).setNew (p := ⟨w.heap.size + 1, 1, none⟩) (by simp) (.slice a7 GL.length c7))
  clear r7 K
  try go_wp2_with fail
  exact bodyPost_ret (v := .tuple #[.agg #[.bool GS, .slice a7 GL.length c7], .bool true]) (by simp [results, Tryz.results32, go_sem, q0, q1]) rfl ⟨_, by rw [unhide HT], unhide RF, unhide KF⟩

theorem ftoint_impl (k : Int) (s : Bool) (m x mode : Int) (w : World) (T : TabB w) :
    Calls Tryz.prog 32 #[flv k s m x, .int .i64 mode] w fun e' w' => ∃ v', e' = .returned (.tuple #[.agg #[.bool (tiS k s m x mode), v'], .bool (tiB k s m x mode)]) ∧ Row .i64 true w.heap.size w'.heap.size w' v' (tiL k s m x mode) ∧ Kept 0 0 w w' := by
  by_cases h : flok k s m x = true
  · rcases flok_ways h with ⟨rfl, h1, h2, h3, h4, h5⟩ | ⟨rfl, rfl, rfl⟩ | ⟨rfl, rfl, rfl⟩ | ⟨rfl, rfl, rfl, rfl⟩
    · exact ftoint_impl_num s m x mode h h1 h2 h3 h4 w T
    · exact ftoint_impl_nought s mode h w T
    · exact ftoint_impl_inf s mode h w
    · exact ftoint_impl_nan mode h w
  · exact ftoint_impl_no s k m x mode (by simpa using h) w

theorem tiL_len (k : Int) (s : Bool) (m x mode : Int) : (tiL k s m x mode).length ≤ 100 := by
  by_cases hB : tiB k s m x mode = true
  · rw [(ti_yes hB).2]
    unfold tiB at hB
    simp only [Bool.and_eq_true] at hB
    obtain ⟨⟨h, -⟩, -⟩ := hB
    unfold tiM
    split
    · rename_i hk
      subst hk
      rcases flok_ways h with ⟨-, h1, h2, h3, h4, h5⟩ | ⟨h9, -⟩ | ⟨h9, -⟩ | ⟨h9, -⟩
      · unfold rndM
        rw [wlm_rnd]
        exact Nat.le_trans (ti_len s h3 h4 h2 mode.toNat).1 (by decide)
      · exact absurd h9 (by decide)
      · exact absurd h9 (by decide)
      · exact absurd h9 (by decide)
    · simp [wlm, limbs_zero]
  · rw [(ti_no (by simpa using hB)).2]
    decide

end Go.Proofs.YtckaecmkidplhaaGreatDoor

