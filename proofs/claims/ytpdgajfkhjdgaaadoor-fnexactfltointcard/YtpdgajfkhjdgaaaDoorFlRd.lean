/-
  Floats of numbers: FlRound and FlOfInt, the model's and the program's.
-/
import Derived.Test.YtpdgajfkhjdgaaaDoorBU
import Derived.Test.YtpdgajfkhjdgaaaDoorFlt3
namespace Go.Proofs.YtpdgajfkhjdgaaaDoor
open Go.RowKit
set_option linter.unusedVariables false
set_option maxRecDepth 8000
set_option linter.unusedSimpArgs false

/-- What is told of a float that there may be none of. -/
def flQ (c : Bool) (s : Bool) (A : Int × Int × Int) : Int × Bool × Int × Int := if c = true then (A.1, s, A.2.1, A.2.2) else (0, false, 0, 0)
def flGc (c : Bool) (g : Int) : Int := if c = true then g else 0
theorem fl_odd (mode : Int) (s : Bool) (m x : Int) : flA mode s m.natAbs x = flA mode s (val (dlm m)).toNat (dex m x) ∧ flG mode s m.natAbs x = flG mode s (val (dlm m)).toNat (dex m x) := by
  have hv : (val (dlm m)).toNat = m.natAbs / 2 ^ tz m.natAbs := by unfold dlm; rw [limbs_val, Int.toNat_natCast]
  by_cases h0 : m = 0
  · subst h0
    rw [hv]
    unfold flA flG
    simp
  · have hn : m.natAbs ≠ 0 := by omega
    obtain ⟨k, hk⟩ := tz_form hn
    have hp : 0 < 2 ^ tz m.natAbs := Nat.pow_pos (by decide)
    have hq : m.natAbs / 2 ^ tz m.natAbs = 2 * k + 1 := by
      have : m.natAbs / 2 ^ tz m.natAbs = (2 ^ tz m.natAbs * (2 * k + 1)) / 2 ^ tz m.natAbs := by rw [← hk]
      rw [this, Nat.mul_div_cancel_left _ hp]
    have e := fl_shift mode s (V := 2 * k + 1) (by omega) (tz m.natAbs) x
    rw [Nat.mul_comm (2 * k + 1), ← hk] at e
    have hd : dex m x = x + (tz m.natAbs : Int) := by unfold dex; rw [if_neg h0]
    rw [hv, hq, hd]
    exact e
theorem odd_dlm (m : Int) : dlm m ≠ [] → val (dlm m) % 2 = 1 := fun h => by
  by_cases h0 : m = 0
  · subst h0; exact absurd dlm_zero h
  · exact (dlm_pos h0).2
theorem dex_nil (m x : Int) : dlm m = [] → dex m x = 0 := fun h => by
  have : m = 0 := dlm_nil_iff.1 (by rw [h]; rfl)
  subst this
  rfl
theorem wn_dlm (m : Int) : WN (wsg m) (dlm m) := ⟨limbs_nrm _, fun h => by
  by_cases h0 : m = 0
  · subst h0; cases h
  · exact (dlm_pos h0).1⟩

set_option maxHeartbeats 400000 in
theorem bad_impl (w : World) :
    Calls Tryd.prog 45 #[] w fun e w' => e = .returned (.tuple #[flv 3 false 0 0, .int .i64 16]) ∧ Kept 0 0 w w' := by
  go_enter Tryd.func45, Tryd.ntmps45
  go_wp2_with fail
  exact bodyPost_ret (v := .tuple #[flv 3 false 0 0, .int .i64 16]) (by simp [results, Tryd.results45, go_sem]) rfl ⟨rfl, (Kept.refl 0 0 w).alloc _⟩

set_option maxHeartbeats 400000 in
theorem bad_spec (w : World) :
    Calls Tryd.prog 42 #[] w fun e w' => e = .returned (.tuple #[flv 3 false 0 0, .int .i64 16]) ∧ Kept 0 0 w w' := by
  have k0 := (Kept.refl 0 0 w).alloc (flc 0 false 0 0 42)
  have q0 : (w.alloc (flc 0 false 0 0 42)).cell? ⟨w.heap.size, 0, none⟩ = some (.int .i64 0) := new_cell2 _ _ _ _ _ _ rfl rfl
  have q1 : (w.alloc (flc 0 false 0 0 42)).cell? ⟨w.heap.size, 1, none⟩ = some (.bool false) := new_cell2 _ _ _ _ _ _ rfl rfl
  have q2 : (w.alloc (flc 0 false 0 0 42)).cell? ⟨w.heap.size, 2, none⟩ = some (.int .i64 0) := new_cell2 _ _ _ _ _ _ rfl rfl
  have q3 : (w.alloc (flc 0 false 0 0 42)).cell? ⟨w.heap.size, 3, none⟩ = some (.int .i64 0) := new_cell2 _ _ _ _ _ _ rfl rfl
  have f0 : (w.alloc (flc 0 false 0 0 42)).frozen? ⟨w.heap.size, 0, none⟩ = false := new_loose2 _ _ _ _ _ rfl
  have f1 : (w.alloc (flc 0 false 0 0 42)).frozen? ⟨w.heap.size, 1, none⟩ = false := new_loose2 _ _ _ _ _ rfl
  have f2 : (w.alloc (flc 0 false 0 0 42)).frozen? ⟨w.heap.size, 2, none⟩ = false := new_loose2 _ _ _ _ _ rfl
  have f3 : (w.alloc (flc 0 false 0 0 42)).frozen? ⟨w.heap.size, 3, none⟩ = false := new_loose2 _ _ _ _ _ rfl
  go_enter Tryd.func42, Tryd.ntmps42
  go_wp2_with fail
  refine (l5nan_any _).mono ?_
  rintro e w1 ⟨rfl, rfl⟩
  have k1 := (Kept.refl 0 0 (w.alloc (flc 0 false 0 0 42))).alloc (flc 3 false 0 0 42)
  replace f0 := k1.loose0 (World.block_lt_of_cell? _ _ q0) f0
  replace f1 := k1.loose0 (World.block_lt_of_cell? _ _ q1) f1
  replace f2 := k1.loose0 (World.block_lt_of_cell? _ _ q2) f2
  replace f3 := k1.loose0 (World.block_lt_of_cell? _ _ q3) f3
  replace q0 := k1.cell0 q0
  replace q1 := k1.cell0 q1
  replace q2 := k1.cell0 q2
  replace q3 := k1.cell0 q3
  have KF := hide (((((k0.trans k1).setNew (p := ⟨w.heap.size, 0, none⟩) (by simp) (.int .i64 3)).setNew (p := ⟨w.heap.size, 1, none⟩) (by simp) (.bool false)).setNew (p := ⟨w.heap.size, 2, none⟩) (by simp) (.int .i64 0)).setNew (p := ⟨w.heap.size, 3, none⟩) (by simp) (.int .i64 0))
  clear k0 k1
  generalize (w.alloc (flc 0 false 0 0 42)).alloc (flc 3 false 0 0 42) = W at *
  go_wp2_with fail
  exact bodyPost_ret (v := .tuple #[flv 3 false 0 0, .int .i64 16]) (by simp [results, Tryd.results42, go_sem, q0, q1, q2, q3]) rfl ⟨rfl, unhide KF⟩

set_option maxHeartbeats 4000000 in
theorem flround_spec {bw : Bool} {lo hi : Nat} {v : Value} {zs : List Int} (s : Bool) (x : Int) (hx1 : x ≤ 9223372036854775807) (hx0 : -9223372036854775808 ≤ x) (mode : Int) (w : World) (r : Row .i64 bw lo hi w v zs) :
    Calls Tryd.prog 14 #[.agg #[.bool s, v, .int .i64 x], .int .i64 mode] w fun e w' => e = .returned (.tuple #[flq (flQ (dokB s zs x && modeB mode) s (flA mode s (val zs).toNat x)), .int .i64 (flGc (dokB s zs x && modeB mode) (flG mode s (val zs).toNat x)), .bool (dokB s zs x && modeB mode)]) ∧ Kept 0 0 w w' := by
  obtain ⟨Q, hQ⟩ : ∃ y, flQ (dokB s zs x && modeB mode) (s) (flA mode s (val zs).toNat x) = y := ⟨_, rfl⟩
  obtain ⟨GF, hGF⟩ : ∃ y, flGc (dokB s zs x && modeB mode) (flG mode s (val zs).toNat x) = y := ⟨_, rfl⟩
  rw [hQ, hGF]
  have HQ := hide hQ
  have HGF := hide hGF
  clear hQ hGF
  obtain ⟨CC, hCC⟩ : ∃ y, (dokB s zs x && modeB mode) = y := ⟨_, rfl⟩
  rw [hCC]
  have HCC := hide hCC
  clear hCC
  have k0 : Kept 0 0 w ((w.alloc (.cells #[.bool s, v, .int .i64 x] 34)).alloc (.cells #[.int .i64 0, .bool false, .int .i64 0, .int .i64 0] 42)) := (((Kept.refl 0 0 w).alloc (.cells #[.bool s, v, .int .i64 x] 34)).alloc (.cells #[.int .i64 0, .bool false, .int .i64 0, .int .i64 0] 42))
  have p0 : ((w.alloc (.cells #[.bool s, v, .int .i64 x] 34)).alloc (.cells #[.int .i64 0, .bool false, .int .i64 0, .int .i64 0] 42)).cell? ⟨w.heap.size, 0, none⟩ = some (.bool s) := old_cell _ (new_cell2 _ _ _ _ _ _ (by simp) rfl)
  have p1 : ((w.alloc (.cells #[.bool s, v, .int .i64 x] 34)).alloc (.cells #[.int .i64 0, .bool false, .int .i64 0, .int .i64 0] 42)).cell? ⟨w.heap.size, 1, none⟩ = some (v) := old_cell _ (new_cell2 _ _ _ _ _ _ (by simp) rfl)
  have p2 : ((w.alloc (.cells #[.bool s, v, .int .i64 x] 34)).alloc (.cells #[.int .i64 0, .bool false, .int .i64 0, .int .i64 0] 42)).cell? ⟨w.heap.size, 2, none⟩ = some (.int .i64 x) := old_cell _ (new_cell2 _ _ _ _ _ _ (by simp) rfl)
  have q0 : ((w.alloc (.cells #[.bool s, v, .int .i64 x] 34)).alloc (.cells #[.int .i64 0, .bool false, .int .i64 0, .int .i64 0] 42)).cell? ⟨w.heap.size + 1, 0, none⟩ = some (.int .i64 0) := new_cell2 _ _ _ _ _ _ (by simp) rfl
  have qf0 : ((w.alloc (.cells #[.bool s, v, .int .i64 x] 34)).alloc (.cells #[.int .i64 0, .bool false, .int .i64 0, .int .i64 0] 42)).frozen? ⟨w.heap.size + 1, 0, none⟩ = false := new_loose2 _ _ _ _ _ (by simp)
  have q1 : ((w.alloc (.cells #[.bool s, v, .int .i64 x] 34)).alloc (.cells #[.int .i64 0, .bool false, .int .i64 0, .int .i64 0] 42)).cell? ⟨w.heap.size + 1, 1, none⟩ = some (.bool false) := new_cell2 _ _ _ _ _ _ (by simp) rfl
  have qf1 : ((w.alloc (.cells #[.bool s, v, .int .i64 x] 34)).alloc (.cells #[.int .i64 0, .bool false, .int .i64 0, .int .i64 0] 42)).frozen? ⟨w.heap.size + 1, 1, none⟩ = false := new_loose2 _ _ _ _ _ (by simp)
  have q2 : ((w.alloc (.cells #[.bool s, v, .int .i64 x] 34)).alloc (.cells #[.int .i64 0, .bool false, .int .i64 0, .int .i64 0] 42)).cell? ⟨w.heap.size + 1, 2, none⟩ = some (.int .i64 0) := new_cell2 _ _ _ _ _ _ (by simp) rfl
  have qf2 : ((w.alloc (.cells #[.bool s, v, .int .i64 x] 34)).alloc (.cells #[.int .i64 0, .bool false, .int .i64 0, .int .i64 0] 42)).frozen? ⟨w.heap.size + 1, 2, none⟩ = false := new_loose2 _ _ _ _ _ (by simp)
  have q3 : ((w.alloc (.cells #[.bool s, v, .int .i64 x] 34)).alloc (.cells #[.int .i64 0, .bool false, .int .i64 0, .int .i64 0] 42)).cell? ⟨w.heap.size + 1, 3, none⟩ = some (.int .i64 0) := new_cell2 _ _ _ _ _ _ (by simp) rfl
  have qf3 : ((w.alloc (.cells #[.bool s, v, .int .i64 x] 34)).alloc (.cells #[.int .i64 0, .bool false, .int .i64 0, .int .i64 0] 42)).frozen? ⟨w.heap.size + 1, 3, none⟩ = false := new_loose2 _ _ _ _ _ (by simp)
  replace r := r.kept k0 (by omega)
  have s0 : ((w.alloc (.cells #[.bool s, v, .int .i64 x] 34)).alloc (.cells #[.int .i64 0, .bool false, .int .i64 0, .int .i64 0] 42)).heap.size = w.heap.size + 2 := by simp
  obtain ⟨a, c, hv⟩ := Row.form' r
  subst hv
  have K := hide (k0)
  clear k0
  have S0 := hide s0
  clear s0
  go_enter Tryd.func14, Tryd.ntmps14
  go_wp2_with fail
  generalize ((w.alloc (.cells #[.bool s, .slice a zs.length c, .int .i64 x] 34)).alloc (.cells #[.int .i64 0, .bool false, .int .i64 0, .int .i64 0] 42)) = W at *
  refine (dok_spec s x hx1 hx0 _ r).mono ?_
  rintro e w1 ⟨rfl, k1⟩
  replace r := r.kept k1 (.inr (.inr (Nat.le_refl 0)))
  replace qf0 := k1.loose0 (World.block_lt_of_cell? _ _ q0) qf0
  replace qf1 := k1.loose0 (World.block_lt_of_cell? _ _ q1) qf1
  replace qf2 := k1.loose0 (World.block_lt_of_cell? _ _ q2) qf2
  replace qf3 := k1.loose0 (World.block_lt_of_cell? _ _ q3) qf3
  replace p0 := k1.cell0 p0
  replace p1 := k1.cell0 p1
  replace p2 := k1.cell0 p2
  replace q0 := k1.cell0 q0
  replace q1 := k1.cell0 q1
  replace q2 := k1.cell0 q2
  replace q3 := k1.cell0 q3
  replace K := hide ((unhide K).trans k1)
  have z2 := k1.size
  clear k1
  cases ho : dokB s zs x
  · have hno : (dokB s zs x && modeB mode) = false := by rw [ho]; rfl
    have FF : Hid (Q = (0, false, 0, 0) ∧ GF = 0 ∧ CC = false) := ⟨by rw [← unhide HQ, hno]; rfl, by rw [← unhide HGF, hno]; rfl, by rw [← unhide HCC, hno]⟩
    clear hno
    have KF := hide (((((unhide K).setNew (p := ⟨w.heap.size + 1, 0, none⟩) (by simp) (.int .i64 0)).setNew (p := ⟨w.heap.size + 1, 1, none⟩) (by simp) (.bool false)).setNew (p := ⟨w.heap.size + 1, 2, none⟩) (by simp) (.int .i64 0)).setNew (p := ⟨w.heap.size + 1, 3, none⟩) (by simp) (.int .i64 0))
    clear r K
    try go_wp2_with fail
    exact bodyPost_ret (v := .tuple #[.agg #[.int .i64 0, .bool false, .int .i64 0, .int .i64 0], .int .i64 0, .bool false]) (by simp [results, Tryd.results14, go_sem, q0, q1, q2, q3]) rfl ⟨by rw [(unhide FF).1, (unhide FF).2.1, (unhide FF).2.2], unhide KF⟩
  have HO := hide ho
  clear ho
  go_wp2_with fail
  refine (mode_spec mode _).mono ?_
  rintro e w5 ⟨rfl, rfl⟩
  cases hm : modeB mode
  · have hno : (dokB s zs x && modeB mode) = false := by rw [hm]; simp
    have FF : Hid (Q = (0, false, 0, 0) ∧ GF = 0 ∧ CC = false) := ⟨by rw [← unhide HQ, hno]; rfl, by rw [← unhide HGF, hno]; rfl, by rw [← unhide HCC, hno]⟩
    clear hno
    have KF := hide (((((unhide K).setNew (p := ⟨w.heap.size + 1, 0, none⟩) (by simp) (.int .i64 0)).setNew (p := ⟨w.heap.size + 1, 1, none⟩) (by simp) (.bool false)).setNew (p := ⟨w.heap.size + 1, 2, none⟩) (by simp) (.int .i64 0)).setNew (p := ⟨w.heap.size + 1, 3, none⟩) (by simp) (.int .i64 0))
    clear r K
    try go_wp2_with fail
    exact bodyPost_ret (v := .tuple #[.agg #[.int .i64 0, .bool false, .int .i64 0, .int .i64 0], .int .i64 0, .bool false]) (by simp [results, Tryd.results14, go_sem, q0, q1, q2, q3]) rfl ⟨by rw [(unhide FF).1, (unhide FF).2.1, (unhide FF).2.2], unhide KF⟩
  have hC : (dokB s zs x && modeB mode) = true := by rw [unhide HO, hm]; rfl
  have hmm : 0 ≤ mode ∧ mode ≤ 4 := by unfold modeB at hm; simpa using hm
  obtain ⟨h1, h2, h3, h4, h5⟩ := dok_parts (unhide HO)
  have wn := wok_wn h1
  obtain ⟨-, -, hl, hn⟩ := wok_int h1
  obtain ⟨A, hA⟩ : ∃ y, flA mode s (val zs).toNat x = y := ⟨_, rfl⟩
  obtain ⟨G, hG⟩ : ∃ y, flG mode s (val zs).toNat x = y := ⟨_, rfl⟩
  have FF : Hid (Q = (A.1, s, A.2.1, A.2.2) ∧ GF = G ∧ CC = true) := ⟨by rw [← unhide HQ, hC, hA]; rfl, by rw [← unhide HGF, hC, hG]; rfl, by rw [← unhide HCC, hC]⟩
  clear hC hm HO h1
  go_wp2_with fail
  have hsg : (if (val zs).toNat = 0 then false else s) = s := by
    by_cases e : (val zs).toNat = 0
    · rw [if_pos e]
      cases hs : s
      · rfl
      · have h6 := wn.2 hs
        have hv := val_nonneg hn.1
        rw [nrm_nil hn (by omega)] at h6
        simp at h6
    · rw [if_neg e]
  have mk := l5round_spec s x (by omega) (by omega) w5 r wn h5 h4 (by omega) mode (by omega) (by omega) false
  rw [hA, hG, hsg] at mk
  clear hA hG hsg
  refine (mk).mono ?_
  rintro e w3 ⟨rfl, k3⟩
  replace r := r.kept k3 (.inr (.inr (Nat.le_refl 0)))
  replace qf0 := k3.loose0 (World.block_lt_of_cell? _ _ q0) qf0
  replace qf1 := k3.loose0 (World.block_lt_of_cell? _ _ q1) qf1
  replace qf2 := k3.loose0 (World.block_lt_of_cell? _ _ q2) qf2
  replace qf3 := k3.loose0 (World.block_lt_of_cell? _ _ q3) qf3
  replace p0 := k3.cell0 p0
  replace p1 := k3.cell0 p1
  replace p2 := k3.cell0 p2
  replace q0 := k3.cell0 q0
  replace q1 := k3.cell0 q1
  replace q2 := k3.cell0 q2
  replace q3 := k3.cell0 q3
  replace K := hide ((unhide K).trans k3)
  have z4 := k3.size
  clear k3
  clear mk
  clear r
  have kn := (Kept.refl 0 0 w3).alloc (.cells #[.int .i64 A.1, .bool s, .int .i64 A.2.1, .int .i64 A.2.2] 42)
  have y0 : (w3.alloc (.cells #[.int .i64 A.1, .bool s, .int .i64 A.2.1, .int .i64 A.2.2] 42)).cell? ⟨w3.heap.size, 0, none⟩ = some (.int .i64 A.1) := new_cell2 _ _ _ _ _ _ (by simp) rfl
  have y1 : (w3.alloc (.cells #[.int .i64 A.1, .bool s, .int .i64 A.2.1, .int .i64 A.2.2] 42)).cell? ⟨w3.heap.size, 1, none⟩ = some (.bool s) := new_cell2 _ _ _ _ _ _ (by simp) rfl
  have y2 : (w3.alloc (.cells #[.int .i64 A.1, .bool s, .int .i64 A.2.1, .int .i64 A.2.2] 42)).cell? ⟨w3.heap.size, 2, none⟩ = some (.int .i64 A.2.1) := new_cell2 _ _ _ _ _ _ (by simp) rfl
  have y3 : (w3.alloc (.cells #[.int .i64 A.1, .bool s, .int .i64 A.2.1, .int .i64 A.2.2] 42)).cell? ⟨w3.heap.size, 3, none⟩ = some (.int .i64 A.2.2) := new_cell2 _ _ _ _ _ _ (by simp) rfl
  have sz5 : w3.heap.size + 1 ≤ (w3.alloc (.cells #[.int .i64 A.1, .bool s, .int .i64 A.2.1, .int .i64 A.2.2] 42)).heap.size := by simp
  replace qf0 := kn.loose0 (World.block_lt_of_cell? _ _ q0) qf0
  replace qf1 := kn.loose0 (World.block_lt_of_cell? _ _ q1) qf1
  replace qf2 := kn.loose0 (World.block_lt_of_cell? _ _ q2) qf2
  replace qf3 := kn.loose0 (World.block_lt_of_cell? _ _ q3) qf3
  replace p0 := kn.cell0 p0
  replace p1 := kn.cell0 p1
  replace p2 := kn.cell0 p2
  replace q0 := kn.cell0 q0
  replace q1 := kn.cell0 q1
  replace q2 := kn.cell0 q2
  replace q3 := kn.cell0 q3
  replace K := hide ((unhide K).trans kn)
  have z6 := kn.size
  clear kn
  go_wp2_with fail
  generalize (w3.alloc (.cells #[.int .i64 A.1, .bool s, .int .i64 A.2.1, .int .i64 A.2.2] 42)) = wn7 at *
  have KF := hide (((((unhide K).setNew (p := ⟨w.heap.size + 1, 0, none⟩) (by simp) (.int .i64 A.1)).setNew (p := ⟨w.heap.size + 1, 1, none⟩) (by simp) (.bool s)).setNew (p := ⟨w.heap.size + 1, 2, none⟩) (by simp) (.int .i64 A.2.1)).setNew (p := ⟨w.heap.size + 1, 3, none⟩) (by simp) (.int .i64 A.2.2))
  clear K
  try go_wp2_with fail
  exact bodyPost_ret (v := .tuple #[.agg #[.int .i64 A.1, .bool s, .int .i64 A.2.1, .int .i64 A.2.2], .int .i64 G, .bool true]) (by simp [results, Tryd.results14, go_sem, q0, q1, q2, q3]) rfl ⟨by rw [(unhide FF).1, (unhide FF).2.1, (unhide FF).2.2], unhide KF⟩

set_option maxHeartbeats 4000000 in
theorem flround_impl {bw : Bool} {lo hi : Nat} {v : Value} {zs : List Int} (s : Bool) (x : Int) (hx1 : x ≤ 9223372036854775807) (hx0 : -9223372036854775808 ≤ x) (mode : Int) (w : World) (r : Row .i64 bw lo hi w v zs) (T : TabB w) :
    Calls Tryd.prog 15 #[.agg #[.bool s, v, .int .i64 x], .int .i64 mode] w fun e w' => e = .returned (.tuple #[flq (flQ (dokB s zs x && modeB mode) s (flA mode s (val zs).toNat x)), .int .i64 (flGc (dokB s zs x && modeB mode) (flG mode s (val zs).toNat x)), .bool (dokB s zs x && modeB mode)]) ∧ Kept 0 0 w w' := by
  obtain ⟨Q, hQ⟩ : ∃ y, flQ (dokB s zs x && modeB mode) (s) (flA mode s (val zs).toNat x) = y := ⟨_, rfl⟩
  obtain ⟨GF, hGF⟩ : ∃ y, flGc (dokB s zs x && modeB mode) (flG mode s (val zs).toNat x) = y := ⟨_, rfl⟩
  rw [hQ, hGF]
  have HQ := hide hQ
  have HGF := hide hGF
  clear hQ hGF
  obtain ⟨CC, hCC⟩ : ∃ y, (dokB s zs x && modeB mode) = y := ⟨_, rfl⟩
  rw [hCC]
  have HCC := hide hCC
  clear hCC
  have k0 : Kept 0 0 w ((w.alloc (.cells #[.bool s, v, .int .i64 x] 34)).alloc (.cells #[.int .i64 0, .bool false, .int .i64 0, .int .i64 0] 42)) := (((Kept.refl 0 0 w).alloc (.cells #[.bool s, v, .int .i64 x] 34)).alloc (.cells #[.int .i64 0, .bool false, .int .i64 0, .int .i64 0] 42))
  have p0 : ((w.alloc (.cells #[.bool s, v, .int .i64 x] 34)).alloc (.cells #[.int .i64 0, .bool false, .int .i64 0, .int .i64 0] 42)).cell? ⟨w.heap.size, 0, none⟩ = some (.bool s) := old_cell _ (new_cell2 _ _ _ _ _ _ (by simp) rfl)
  have p1 : ((w.alloc (.cells #[.bool s, v, .int .i64 x] 34)).alloc (.cells #[.int .i64 0, .bool false, .int .i64 0, .int .i64 0] 42)).cell? ⟨w.heap.size, 1, none⟩ = some (v) := old_cell _ (new_cell2 _ _ _ _ _ _ (by simp) rfl)
  have p2 : ((w.alloc (.cells #[.bool s, v, .int .i64 x] 34)).alloc (.cells #[.int .i64 0, .bool false, .int .i64 0, .int .i64 0] 42)).cell? ⟨w.heap.size, 2, none⟩ = some (.int .i64 x) := old_cell _ (new_cell2 _ _ _ _ _ _ (by simp) rfl)
  have q0 : ((w.alloc (.cells #[.bool s, v, .int .i64 x] 34)).alloc (.cells #[.int .i64 0, .bool false, .int .i64 0, .int .i64 0] 42)).cell? ⟨w.heap.size + 1, 0, none⟩ = some (.int .i64 0) := new_cell2 _ _ _ _ _ _ (by simp) rfl
  have qf0 : ((w.alloc (.cells #[.bool s, v, .int .i64 x] 34)).alloc (.cells #[.int .i64 0, .bool false, .int .i64 0, .int .i64 0] 42)).frozen? ⟨w.heap.size + 1, 0, none⟩ = false := new_loose2 _ _ _ _ _ (by simp)
  have q1 : ((w.alloc (.cells #[.bool s, v, .int .i64 x] 34)).alloc (.cells #[.int .i64 0, .bool false, .int .i64 0, .int .i64 0] 42)).cell? ⟨w.heap.size + 1, 1, none⟩ = some (.bool false) := new_cell2 _ _ _ _ _ _ (by simp) rfl
  have qf1 : ((w.alloc (.cells #[.bool s, v, .int .i64 x] 34)).alloc (.cells #[.int .i64 0, .bool false, .int .i64 0, .int .i64 0] 42)).frozen? ⟨w.heap.size + 1, 1, none⟩ = false := new_loose2 _ _ _ _ _ (by simp)
  have q2 : ((w.alloc (.cells #[.bool s, v, .int .i64 x] 34)).alloc (.cells #[.int .i64 0, .bool false, .int .i64 0, .int .i64 0] 42)).cell? ⟨w.heap.size + 1, 2, none⟩ = some (.int .i64 0) := new_cell2 _ _ _ _ _ _ (by simp) rfl
  have qf2 : ((w.alloc (.cells #[.bool s, v, .int .i64 x] 34)).alloc (.cells #[.int .i64 0, .bool false, .int .i64 0, .int .i64 0] 42)).frozen? ⟨w.heap.size + 1, 2, none⟩ = false := new_loose2 _ _ _ _ _ (by simp)
  have q3 : ((w.alloc (.cells #[.bool s, v, .int .i64 x] 34)).alloc (.cells #[.int .i64 0, .bool false, .int .i64 0, .int .i64 0] 42)).cell? ⟨w.heap.size + 1, 3, none⟩ = some (.int .i64 0) := new_cell2 _ _ _ _ _ _ (by simp) rfl
  have qf3 : ((w.alloc (.cells #[.bool s, v, .int .i64 x] 34)).alloc (.cells #[.int .i64 0, .bool false, .int .i64 0, .int .i64 0] 42)).frozen? ⟨w.heap.size + 1, 3, none⟩ = false := new_loose2 _ _ _ _ _ (by simp)
  replace r := r.kept k0 (by omega)
  have s0 : ((w.alloc (.cells #[.bool s, v, .int .i64 x] 34)).alloc (.cells #[.int .i64 0, .bool false, .int .i64 0, .int .i64 0] 42)).heap.size = w.heap.size + 2 := by simp
  obtain ⟨a, c, hv⟩ := Row.form' r
  subst hv
  have K := hide (k0)
  clear k0
  have S0 := hide s0
  clear s0
  go_enter Tryd.func15, Tryd.ntmps15
  go_wp2_with fail
  generalize ((w.alloc (.cells #[.bool s, .slice a zs.length c, .int .i64 x] 34)).alloc (.cells #[.int .i64 0, .bool false, .int .i64 0, .int .i64 0] 42)) = W at *
  refine (dok_impl s x hx1 hx0 _ r).mono ?_
  rintro e w1 ⟨rfl, k1⟩
  replace r := r.kept k1 (.inr (.inr (Nat.le_refl 0)))
  replace qf0 := k1.loose0 (World.block_lt_of_cell? _ _ q0) qf0
  replace qf1 := k1.loose0 (World.block_lt_of_cell? _ _ q1) qf1
  replace qf2 := k1.loose0 (World.block_lt_of_cell? _ _ q2) qf2
  replace qf3 := k1.loose0 (World.block_lt_of_cell? _ _ q3) qf3
  replace p0 := k1.cell0 p0
  replace p1 := k1.cell0 p1
  replace p2 := k1.cell0 p2
  replace q0 := k1.cell0 q0
  replace q1 := k1.cell0 q1
  replace q2 := k1.cell0 q2
  replace q3 := k1.cell0 q3
  replace K := hide ((unhide K).trans k1)
  have z2 := k1.size
  clear k1
  cases ho : dokB s zs x
  · have hno : (dokB s zs x && modeB mode) = false := by rw [ho]; rfl
    have FF : Hid (Q = (0, false, 0, 0) ∧ GF = 0 ∧ CC = false) := ⟨by rw [← unhide HQ, hno]; rfl, by rw [← unhide HGF, hno]; rfl, by rw [← unhide HCC, hno]⟩
    clear hno
    have KF := hide (((((unhide K).setNew (p := ⟨w.heap.size + 1, 0, none⟩) (by simp) (.int .i64 0)).setNew (p := ⟨w.heap.size + 1, 1, none⟩) (by simp) (.bool false)).setNew (p := ⟨w.heap.size + 1, 2, none⟩) (by simp) (.int .i64 0)).setNew (p := ⟨w.heap.size + 1, 3, none⟩) (by simp) (.int .i64 0))
    clear r K
    try go_wp2_with fail
    exact bodyPost_ret (v := .tuple #[.agg #[.int .i64 0, .bool false, .int .i64 0, .int .i64 0], .int .i64 0, .bool false]) (by simp [results, Tryd.results15, go_sem, q0, q1, q2, q3]) rfl ⟨by rw [(unhide FF).1, (unhide FF).2.1, (unhide FF).2.2], unhide KF⟩
  have HO := hide ho
  clear ho
  go_wp2_with fail
  refine (isMode_impl mode _).mono ?_
  rintro e w5 ⟨rfl, rfl⟩
  cases hm : modeB mode
  · have hno : (dokB s zs x && modeB mode) = false := by rw [hm]; simp
    have FF : Hid (Q = (0, false, 0, 0) ∧ GF = 0 ∧ CC = false) := ⟨by rw [← unhide HQ, hno]; rfl, by rw [← unhide HGF, hno]; rfl, by rw [← unhide HCC, hno]⟩
    clear hno
    have KF := hide (((((unhide K).setNew (p := ⟨w.heap.size + 1, 0, none⟩) (by simp) (.int .i64 0)).setNew (p := ⟨w.heap.size + 1, 1, none⟩) (by simp) (.bool false)).setNew (p := ⟨w.heap.size + 1, 2, none⟩) (by simp) (.int .i64 0)).setNew (p := ⟨w.heap.size + 1, 3, none⟩) (by simp) (.int .i64 0))
    clear r K
    try go_wp2_with fail
    exact bodyPost_ret (v := .tuple #[.agg #[.int .i64 0, .bool false, .int .i64 0, .int .i64 0], .int .i64 0, .bool false]) (by simp [results, Tryd.results15, go_sem, q0, q1, q2, q3]) rfl ⟨by rw [(unhide FF).1, (unhide FF).2.1, (unhide FF).2.2], unhide KF⟩
  have hC : (dokB s zs x && modeB mode) = true := by rw [unhide HO, hm]; rfl
  have hmm : 0 ≤ mode ∧ mode ≤ 4 := by unfold modeB at hm; simpa using hm
  obtain ⟨h1, h2, h3, h4, h5⟩ := dok_parts (unhide HO)
  have wn := wok_wn h1
  obtain ⟨-, -, hl, hn⟩ := wok_int h1
  obtain ⟨A, hA⟩ : ∃ y, flA mode s (val zs).toNat x = y := ⟨_, rfl⟩
  obtain ⟨G, hG⟩ : ∃ y, flG mode s (val zs).toNat x = y := ⟨_, rfl⟩
  have FF : Hid (Q = (A.1, s, A.2.1, A.2.2) ∧ GF = G ∧ CC = true) := ⟨by rw [← unhide HQ, hC, hA]; rfl, by rw [← unhide HGF, hC, hG]; rfl, by rw [← unhide HCC, hC]⟩
  clear hC hm HO h1
  go_wp2_with fail
  refine (dyadicOf_impl s x _ r (by omega)).mono ?_
  rintro e w3 ⟨v3, rfl, o3, k3⟩
  replace r := r.kept k3 (.inr (.inr (Nat.le_refl 0)))
  replace qf0 := k3.loose0 (World.block_lt_of_cell? _ _ q0) qf0
  replace qf1 := k3.loose0 (World.block_lt_of_cell? _ _ q1) qf1
  replace qf2 := k3.loose0 (World.block_lt_of_cell? _ _ q2) qf2
  replace qf3 := k3.loose0 (World.block_lt_of_cell? _ _ q3) qf3
  replace p0 := k3.cell0 p0
  replace p1 := k3.cell0 p1
  replace p2 := k3.cell0 p2
  replace q0 := k3.cell0 q0
  replace q1 := k3.cell0 q1
  replace q2 := k3.cell0 q2
  replace q3 := k3.cell0 q3
  replace K := hide ((unhide K).trans k3)
  have z4 := k3.size
  clear k3
  clear r
  have l3 := o3.lt
  obtain ⟨nd, dd, ee⟩ := new_dya s x 70 o3
  have kn := (Kept.refl 0 0 w3).alloc (.cells #[v3, .bool s, .int .i64 x] 70)
  obtain ⟨a3, c3, hv⟩ := own_slice o3
  subst hv
  replace qf0 := kn.loose0 (World.block_lt_of_cell? _ _ q0) qf0
  replace qf1 := kn.loose0 (World.block_lt_of_cell? _ _ q1) qf1
  replace qf2 := kn.loose0 (World.block_lt_of_cell? _ _ q2) qf2
  replace qf3 := kn.loose0 (World.block_lt_of_cell? _ _ q3) qf3
  replace p0 := kn.cell0 p0
  replace p1 := kn.cell0 p1
  replace p2 := kn.cell0 p2
  replace q0 := kn.cell0 q0
  replace q1 := kn.cell0 q1
  replace q2 := kn.cell0 q2
  replace q3 := kn.cell0 q3
  replace K := hide ((unhide K).trans kn)
  have z5 := kn.size
  clear kn o3
  skip
  go_wp2_with fail
  generalize w3.alloc (.cells #[.slice a3 zs.length c3, .bool s, .int .i64 x] 70) = W9 at *
  have mk := toFloat_impl _ nd dd ee hn (by omega) (by have := unhide S0; omega) (by omega) (by omega) mode (by omega) (by omega) (T.kept (unhide K))
  rw [hA, hG] at mk
  refine mk.mono ?_
  rintro e w7 ⟨rfl, m7⟩
  clear mk hA hG
  have hS : ∀ i, (Value.slice a3 zs.length c3).ownBlock = some i → w.heap.size + 2 ≤ i := fun i e => by have := (l3 _ e).1; have := unhide S0; omega
  have nS : ¬ (Value.slice a3 zs.length c3).ownBlock = some (w.heap.size + 1) := fun e => by have := hS _ e; omega
  replace qf0 := m7.loose (a := ⟨w.heap.size + 1, 0, none⟩) nS (World.block_lt_of_cell? _ _ q0) qf0
  replace qf1 := m7.loose (a := ⟨w.heap.size + 1, 1, none⟩) nS (World.block_lt_of_cell? _ _ q1) qf1
  replace qf2 := m7.loose (a := ⟨w.heap.size + 1, 2, none⟩) nS (World.block_lt_of_cell? _ _ q2) qf2
  replace qf3 := m7.loose (a := ⟨w.heap.size + 1, 3, none⟩) nS (World.block_lt_of_cell? _ _ q3) qf3
  replace q0 := m7.cell (a := ⟨w.heap.size + 1, 0, none⟩) nS q0
  replace q1 := m7.cell (a := ⟨w.heap.size + 1, 1, none⟩) nS q1
  replace q2 := m7.cell (a := ⟨w.heap.size + 1, 2, none⟩) nS q2
  replace q3 := m7.cell (a := ⟨w.heap.size + 1, 3, none⟩) nS q3
  replace K := hide ((unhide K).mod m7 (fun i e => by have := hS i e; omega))
  have z7 := m7.size
  clear m7 hS nS nd dd ee p0 p1 p2
  have kn := (Kept.refl 0 0 w7).alloc (.cells #[.int .i64 A.1, .bool s, .int .i64 A.2.1, .int .i64 A.2.2] 42)
  have y0 : (w7.alloc (.cells #[.int .i64 A.1, .bool s, .int .i64 A.2.1, .int .i64 A.2.2] 42)).cell? ⟨w7.heap.size, 0, none⟩ = some (.int .i64 A.1) := new_cell2 _ _ _ _ _ _ (by simp) rfl
  have y1 : (w7.alloc (.cells #[.int .i64 A.1, .bool s, .int .i64 A.2.1, .int .i64 A.2.2] 42)).cell? ⟨w7.heap.size, 1, none⟩ = some (.bool s) := new_cell2 _ _ _ _ _ _ (by simp) rfl
  have y2 : (w7.alloc (.cells #[.int .i64 A.1, .bool s, .int .i64 A.2.1, .int .i64 A.2.2] 42)).cell? ⟨w7.heap.size, 2, none⟩ = some (.int .i64 A.2.1) := new_cell2 _ _ _ _ _ _ (by simp) rfl
  have y3 : (w7.alloc (.cells #[.int .i64 A.1, .bool s, .int .i64 A.2.1, .int .i64 A.2.2] 42)).cell? ⟨w7.heap.size, 3, none⟩ = some (.int .i64 A.2.2) := new_cell2 _ _ _ _ _ _ (by simp) rfl
  have sz6 : w7.heap.size + 1 ≤ (w7.alloc (.cells #[.int .i64 A.1, .bool s, .int .i64 A.2.1, .int .i64 A.2.2] 42)).heap.size := by simp
  replace qf0 := kn.loose0 (World.block_lt_of_cell? _ _ q0) qf0
  replace qf1 := kn.loose0 (World.block_lt_of_cell? _ _ q1) qf1
  replace qf2 := kn.loose0 (World.block_lt_of_cell? _ _ q2) qf2
  replace qf3 := kn.loose0 (World.block_lt_of_cell? _ _ q3) qf3
  replace q0 := kn.cell0 q0
  replace q1 := kn.cell0 q1
  replace q2 := kn.cell0 q2
  replace q3 := kn.cell0 q3
  replace K := hide ((unhide K).trans kn)
  have z7 := kn.size
  clear kn
  go_wp2_with fail
  generalize (w7.alloc (.cells #[.int .i64 A.1, .bool s, .int .i64 A.2.1, .int .i64 A.2.2] 42)) = wn8 at *
  have KF := hide (((((unhide K).setNew (p := ⟨w.heap.size + 1, 0, none⟩) (by simp) (.int .i64 A.1)).setNew (p := ⟨w.heap.size + 1, 1, none⟩) (by simp) (.bool s)).setNew (p := ⟨w.heap.size + 1, 2, none⟩) (by simp) (.int .i64 A.2.1)).setNew (p := ⟨w.heap.size + 1, 3, none⟩) (by simp) (.int .i64 A.2.2))
  clear K
  try go_wp2_with fail
  exact bodyPost_ret (v := .tuple #[.agg #[.int .i64 A.1, .bool s, .int .i64 A.2.1, .int .i64 A.2.2], .int .i64 G, .bool true]) (by simp [results, Tryd.results15, go_sem, q0, q1, q2, q3]) rfl ⟨by rw [(unhide FF).1, (unhide FF).2.1, (unhide FF).2.2], unhide KF⟩

/-- The float of an int; its flags. -/
def fiQ (n mode : Int) : Int × Bool × Int × Int := if modeB mode = true then ((flA mode (wsg n) n.natAbs 0).1, wsg n, (flA mode (wsg n) n.natAbs 0).2.1, (flA mode (wsg n) n.natAbs 0).2.2) else (3, false, 0, 0)
def fiG (n mode : Int) : Int := if modeB mode = true then flG mode (wsg n) n.natAbs 0 else 16

set_option maxHeartbeats 4000000 in
theorem flofint_spec (n mode : Int) (hn1 : n ≤ 9223372036854775807) (hn0 : -9223372036854775808 ≤ n) (w : World) :
    Calls Tryd.prog 17 #[.int .i64 n, .int .i64 mode] w fun e w' => e = .returned (.tuple #[flq (fiQ n mode), .int .i64 (fiG n mode)]) ∧ Kept 0 0 w w' := by
  obtain ⟨Q, hQ⟩ : ∃ y, fiQ n mode = y := ⟨_, rfl⟩
  obtain ⟨GF, hGF⟩ : ∃ y, fiG n mode = y := ⟨_, rfl⟩
  rw [hQ, hGF]
  have HQ := hide hQ
  have HGF := hide hGF
  clear hQ hGF
  have k0 : Kept 0 0 w (w.alloc (.cells #[.int .i64 0, .bool false, .int .i64 0, .int .i64 0] 42)) := ((Kept.refl 0 0 w).alloc (.cells #[.int .i64 0, .bool false, .int .i64 0, .int .i64 0] 42))
  have q0 : (w.alloc (.cells #[.int .i64 0, .bool false, .int .i64 0, .int .i64 0] 42)).cell? ⟨w.heap.size, 0, none⟩ = some (.int .i64 0) := new_cell2 _ _ _ _ _ _ (by simp) rfl
  have qf0 : (w.alloc (.cells #[.int .i64 0, .bool false, .int .i64 0, .int .i64 0] 42)).frozen? ⟨w.heap.size, 0, none⟩ = false := new_loose2 _ _ _ _ _ (by simp)
  have q1 : (w.alloc (.cells #[.int .i64 0, .bool false, .int .i64 0, .int .i64 0] 42)).cell? ⟨w.heap.size, 1, none⟩ = some (.bool false) := new_cell2 _ _ _ _ _ _ (by simp) rfl
  have qf1 : (w.alloc (.cells #[.int .i64 0, .bool false, .int .i64 0, .int .i64 0] 42)).frozen? ⟨w.heap.size, 1, none⟩ = false := new_loose2 _ _ _ _ _ (by simp)
  have q2 : (w.alloc (.cells #[.int .i64 0, .bool false, .int .i64 0, .int .i64 0] 42)).cell? ⟨w.heap.size, 2, none⟩ = some (.int .i64 0) := new_cell2 _ _ _ _ _ _ (by simp) rfl
  have qf2 : (w.alloc (.cells #[.int .i64 0, .bool false, .int .i64 0, .int .i64 0] 42)).frozen? ⟨w.heap.size, 2, none⟩ = false := new_loose2 _ _ _ _ _ (by simp)
  have q3 : (w.alloc (.cells #[.int .i64 0, .bool false, .int .i64 0, .int .i64 0] 42)).cell? ⟨w.heap.size, 3, none⟩ = some (.int .i64 0) := new_cell2 _ _ _ _ _ _ (by simp) rfl
  have qf3 : (w.alloc (.cells #[.int .i64 0, .bool false, .int .i64 0, .int .i64 0] 42)).frozen? ⟨w.heap.size, 3, none⟩ = false := new_loose2 _ _ _ _ _ (by simp)
  have s0 : (w.alloc (.cells #[.int .i64 0, .bool false, .int .i64 0, .int .i64 0] 42)).heap.size = w.heap.size + 1 := by simp
  have K := hide (k0)
  clear k0
  have S0 := hide s0
  clear s0
  go_enter Tryd.func17, Tryd.ntmps17
  go_wp2_with fail
  generalize (w.alloc (.cells #[.int .i64 0, .bool false, .int .i64 0, .int .i64 0] 42)) = W at *
  refine (mode_spec mode _).mono ?_
  rintro e w5 ⟨rfl, rfl⟩
  cases hm : modeB mode
  · have FF : Hid (Q = (3, false, 0, 0) ∧ GF = 16) := ⟨by rw [← unhide HQ]; unfold fiQ; rw [hm]; rfl, by rw [← unhide HGF]; unfold fiG; rw [hm]; rfl⟩
    clear hm
    go_wp2_with fail
    refine (bad_spec _).mono ?_
    rintro e w1 ⟨rfl, k1⟩
    replace qf0 := k1.loose0 (World.block_lt_of_cell? _ _ q0) qf0
    replace qf1 := k1.loose0 (World.block_lt_of_cell? _ _ q1) qf1
    replace qf2 := k1.loose0 (World.block_lt_of_cell? _ _ q2) qf2
    replace qf3 := k1.loose0 (World.block_lt_of_cell? _ _ q3) qf3
    replace q0 := k1.cell0 q0
    replace q1 := k1.cell0 q1
    replace q2 := k1.cell0 q2
    replace q3 := k1.cell0 q3
    replace K := hide ((unhide K).trans k1)
    have z2 := k1.size
    clear k1
    have KF := hide (((((unhide K).setNew (p := ⟨w.heap.size, 0, none⟩) (by simp) (.int .i64 3)).setNew (p := ⟨w.heap.size, 1, none⟩) (by simp) (.bool false)).setNew (p := ⟨w.heap.size, 2, none⟩) (by simp) (.int .i64 0)).setNew (p := ⟨w.heap.size, 3, none⟩) (by simp) (.int .i64 0))
    clear K
    try go_wp2_with fail
    exact bodyPost_ret (v := .tuple #[.agg #[.int .i64 3, .bool false, .int .i64 0, .int .i64 0], .int .i64 16]) (by simp [results, Tryd.results17, go_sem, q0, q1, q2, q3]) rfl ⟨by rw [(unhide FF).1, (unhide FF).2], unhide KF⟩
  have hmm : 0 ≤ mode ∧ mode ≤ 4 := by unfold modeB at hm; simpa using hm
  obtain ⟨A, hA⟩ : ∃ y, flA mode (wsg n) n.natAbs 0 = y := ⟨_, rfl⟩
  obtain ⟨G, hG⟩ : ∃ y, flG mode (wsg n) n.natAbs 0 = y := ⟨_, rfl⟩
  obtain ⟨s, hs⟩ : ∃ y, wsg n = y := ⟨_, rfl⟩
  have FF : Hid (Q = (A.1, s, A.2.1, A.2.2) ∧ GF = G) := ⟨by rw [← unhide HQ]; unfold fiQ; rw [hm, if_pos rfl, hA, hs], by rw [← unhide HGF]; unfold fiG; rw [hm, if_pos rfl, hG]⟩
  have HS := hide hs
  have HA := hide hA
  have HG := hide hG
  clear hm hs hA hG
  have nw : (wlm n).length ≤ 4 := (limbs_length_le _ _).2 (by rw [show (65536 : Int) ^ 4 = 18446744073709551616 by decide]; omega)
  go_wp2_with fail
  refine (of3_spec n hn1 hn0 _).mono ?_
  rintro e w1 ⟨v3, rfl, r3, k1⟩
  replace qf0 := k1.loose0 (World.block_lt_of_cell? _ _ q0) qf0
  replace qf1 := k1.loose0 (World.block_lt_of_cell? _ _ q1) qf1
  replace qf2 := k1.loose0 (World.block_lt_of_cell? _ _ q2) qf2
  replace qf3 := k1.loose0 (World.block_lt_of_cell? _ _ q3) qf3
  replace q0 := k1.cell0 q0
  replace q1 := k1.cell0 q1
  replace q2 := k1.cell0 q2
  replace q3 := k1.cell0 q3
  replace K := hide ((unhide K).trans k1)
  have z2 := k1.size
  clear k1
  obtain ⟨a3, c3, hv⟩ := Row.form' r3
  subst hv
  go_wp2_with fail
  refine (make4_spec (wsg n) 0 n (wval_int n) (by omega) (by omega) _ r3 (wn_int n) (by omega)).mono ?_
  rintro e w3 ⟨v4, rfl, r4, k3⟩
  replace r3 := r3.kept k3 (.inr (.inr (Nat.le_refl 0)))
  replace qf0 := k3.loose0 (World.block_lt_of_cell? _ _ q0) qf0
  replace qf1 := k3.loose0 (World.block_lt_of_cell? _ _ q1) qf1
  replace qf2 := k3.loose0 (World.block_lt_of_cell? _ _ q2) qf2
  replace qf3 := k3.loose0 (World.block_lt_of_cell? _ _ q3) qf3
  replace q0 := k3.cell0 q0
  replace q1 := k3.cell0 q1
  replace q2 := k3.cell0 q2
  replace q3 := k3.cell0 q3
  replace K := hide ((unhide K).trans k3)
  have z4 := k3.size
  clear k3
  obtain ⟨a4, c4, hv⟩ := Row.form' r4
  subst hv
  clear r3
  go_wp2_with fail
  have nd : (dlm n).length ≤ 4 := Nat.le_trans (dlm_len (M := n) rfl) nw
  have hdx : -100 ≤ dex n 0 ∧ dex n 0 ≤ 100 := by
    unfold dex
    split
    · omega
    · rename_i h
      have := tz_lt (n := n.natAbs) (k := 64) (by omega) (by rw [show (2 : Nat) ^ 64 = 18446744073709551616 by decide]; omega)
      omega
  obtain ⟨e1, e2⟩ := fl_odd mode (wsg n) n 0
  rw [unhide HA] at e1
  rw [unhide HG] at e2
  have mk := l5round_spec (wsg n) (dex n 0) (by omega) (by omega) w3 r4 (wn_dlm n) (odd_dlm n) (dex_nil n 0) (by omega) mode (by omega) (by omega) false
  rw [← e1, ← e2] at mk
  have hsg : (if (val (dlm n)).toNat = 0 then false else wsg n) = wsg n := by
    by_cases h0 : n = 0
    · subst h0; simp [wsg]
    · rw [if_neg]
      have := (dlm_pos h0).2
      have := val_nonneg (wn_dlm n).1.1
      omega
  rw [hsg, unhide HS] at mk
  rw [unhide HS]
  clear e1 e2 hsg
  refine (mk).mono ?_
  rintro e w5 ⟨rfl, k5⟩
  replace r4 := r4.kept k5 (.inr (.inr (Nat.le_refl 0)))
  replace qf0 := k5.loose0 (World.block_lt_of_cell? _ _ q0) qf0
  replace qf1 := k5.loose0 (World.block_lt_of_cell? _ _ q1) qf1
  replace qf2 := k5.loose0 (World.block_lt_of_cell? _ _ q2) qf2
  replace qf3 := k5.loose0 (World.block_lt_of_cell? _ _ q3) qf3
  replace q0 := k5.cell0 q0
  replace q1 := k5.cell0 q1
  replace q2 := k5.cell0 q2
  replace q3 := k5.cell0 q3
  replace K := hide ((unhide K).trans k5)
  have z6 := k5.size
  clear k5
  clear mk
  clear r4
  have KF := hide (((((unhide K).setNew (p := ⟨w.heap.size, 0, none⟩) (by simp) (.int .i64 A.1)).setNew (p := ⟨w.heap.size, 1, none⟩) (by simp) (.bool s)).setNew (p := ⟨w.heap.size, 2, none⟩) (by simp) (.int .i64 A.2.1)).setNew (p := ⟨w.heap.size, 3, none⟩) (by simp) (.int .i64 A.2.2))
  clear K
  try go_wp2_with fail
  exact bodyPost_ret (v := .tuple #[.agg #[.int .i64 A.1, .bool s, .int .i64 A.2.1, .int .i64 A.2.2], .int .i64 G]) (by simp [results, Tryd.results17, go_sem, q0, q1, q2, q3]) rfl ⟨by rw [(unhide FF).1, (unhide FF).2], unhide KF⟩

set_option maxHeartbeats 4000000 in
theorem flofint_impl (n mode : Int) (hn1 : n ≤ 9223372036854775807) (hn0 : -9223372036854775808 ≤ n) (w : World) (T : TabB w) :
    Calls Tryd.prog 18 #[.int .i64 n, .int .i64 mode] w fun e w' => e = .returned (.tuple #[flq (fiQ n mode), .int .i64 (fiG n mode)]) ∧ Kept 0 0 w w' := by
  obtain ⟨Q, hQ⟩ : ∃ y, fiQ n mode = y := ⟨_, rfl⟩
  obtain ⟨GF, hGF⟩ : ∃ y, fiG n mode = y := ⟨_, rfl⟩
  rw [hQ, hGF]
  have HQ := hide hQ
  have HGF := hide hGF
  clear hQ hGF
  have k0 : Kept 0 0 w (w.alloc (.cells #[.int .i64 0, .bool false, .int .i64 0, .int .i64 0] 42)) := ((Kept.refl 0 0 w).alloc (.cells #[.int .i64 0, .bool false, .int .i64 0, .int .i64 0] 42))
  have q0 : (w.alloc (.cells #[.int .i64 0, .bool false, .int .i64 0, .int .i64 0] 42)).cell? ⟨w.heap.size, 0, none⟩ = some (.int .i64 0) := new_cell2 _ _ _ _ _ _ (by simp) rfl
  have qf0 : (w.alloc (.cells #[.int .i64 0, .bool false, .int .i64 0, .int .i64 0] 42)).frozen? ⟨w.heap.size, 0, none⟩ = false := new_loose2 _ _ _ _ _ (by simp)
  have q1 : (w.alloc (.cells #[.int .i64 0, .bool false, .int .i64 0, .int .i64 0] 42)).cell? ⟨w.heap.size, 1, none⟩ = some (.bool false) := new_cell2 _ _ _ _ _ _ (by simp) rfl
  have qf1 : (w.alloc (.cells #[.int .i64 0, .bool false, .int .i64 0, .int .i64 0] 42)).frozen? ⟨w.heap.size, 1, none⟩ = false := new_loose2 _ _ _ _ _ (by simp)
  have q2 : (w.alloc (.cells #[.int .i64 0, .bool false, .int .i64 0, .int .i64 0] 42)).cell? ⟨w.heap.size, 2, none⟩ = some (.int .i64 0) := new_cell2 _ _ _ _ _ _ (by simp) rfl
  have qf2 : (w.alloc (.cells #[.int .i64 0, .bool false, .int .i64 0, .int .i64 0] 42)).frozen? ⟨w.heap.size, 2, none⟩ = false := new_loose2 _ _ _ _ _ (by simp)
  have q3 : (w.alloc (.cells #[.int .i64 0, .bool false, .int .i64 0, .int .i64 0] 42)).cell? ⟨w.heap.size, 3, none⟩ = some (.int .i64 0) := new_cell2 _ _ _ _ _ _ (by simp) rfl
  have qf3 : (w.alloc (.cells #[.int .i64 0, .bool false, .int .i64 0, .int .i64 0] 42)).frozen? ⟨w.heap.size, 3, none⟩ = false := new_loose2 _ _ _ _ _ (by simp)
  have s0 : (w.alloc (.cells #[.int .i64 0, .bool false, .int .i64 0, .int .i64 0] 42)).heap.size = w.heap.size + 1 := by simp
  have K := hide (k0)
  clear k0
  have S0 := hide s0
  clear s0
  go_enter Tryd.func18, Tryd.ntmps18
  go_wp2_with fail
  generalize (w.alloc (.cells #[.int .i64 0, .bool false, .int .i64 0, .int .i64 0] 42)) = W at *
  refine (isMode_impl mode _).mono ?_
  rintro e w5 ⟨rfl, rfl⟩
  cases hm : modeB mode
  · have FF : Hid (Q = (3, false, 0, 0) ∧ GF = 16) := ⟨by rw [← unhide HQ]; unfold fiQ; rw [hm]; rfl, by rw [← unhide HGF]; unfold fiG; rw [hm]; rfl⟩
    clear hm
    go_wp2_with fail
    refine (bad_impl _).mono ?_
    rintro e w1 ⟨rfl, k1⟩
    replace qf0 := k1.loose0 (World.block_lt_of_cell? _ _ q0) qf0
    replace qf1 := k1.loose0 (World.block_lt_of_cell? _ _ q1) qf1
    replace qf2 := k1.loose0 (World.block_lt_of_cell? _ _ q2) qf2
    replace qf3 := k1.loose0 (World.block_lt_of_cell? _ _ q3) qf3
    replace q0 := k1.cell0 q0
    replace q1 := k1.cell0 q1
    replace q2 := k1.cell0 q2
    replace q3 := k1.cell0 q3
    replace K := hide ((unhide K).trans k1)
    have z2 := k1.size
    clear k1
    have KF := hide (((((unhide K).setNew (p := ⟨w.heap.size, 0, none⟩) (by simp) (.int .i64 3)).setNew (p := ⟨w.heap.size, 1, none⟩) (by simp) (.bool false)).setNew (p := ⟨w.heap.size, 2, none⟩) (by simp) (.int .i64 0)).setNew (p := ⟨w.heap.size, 3, none⟩) (by simp) (.int .i64 0))
    clear K
    try go_wp2_with fail
    exact bodyPost_ret (v := .tuple #[.agg #[.int .i64 3, .bool false, .int .i64 0, .int .i64 0], .int .i64 16]) (by simp [results, Tryd.results18, go_sem, q0, q1, q2, q3]) rfl ⟨by rw [(unhide FF).1, (unhide FF).2], unhide KF⟩
  have hmm : 0 ≤ mode ∧ mode ≤ 4 := by unfold modeB at hm; simpa using hm
  obtain ⟨A, hA⟩ : ∃ y, flA mode (wsg n) n.natAbs 0 = y := ⟨_, rfl⟩
  obtain ⟨G, hG⟩ : ∃ y, flG mode (wsg n) n.natAbs 0 = y := ⟨_, rfl⟩
  obtain ⟨s, hs⟩ : ∃ y, wsg n = y := ⟨_, rfl⟩
  have FF : Hid (Q = (A.1, s, A.2.1, A.2.2) ∧ GF = G) := ⟨by rw [← unhide HQ]; unfold fiQ; rw [hm, if_pos rfl, hA, hs], by rw [← unhide HGF]; unfold fiG; rw [hm, if_pos rfl, hG]⟩
  have HS := hide hs
  have HA := hide hA
  have HG := hide hG
  clear hm hs hA hG
  have nw : (wlm n).length ≤ 4 := (limbs_length_le _ _).2 (by rw [show (65536 : Int) ^ 4 = 18446744073709551616 by decide]; omega)
  go_wp2_with fail
  refine (signedOfInt_impl n hn1 hn0 _).mono ?_
  rintro e w1 ⟨v3, rfl, o3, k1⟩
  replace qf0 := k1.loose0 (World.block_lt_of_cell? _ _ q0) qf0
  replace qf1 := k1.loose0 (World.block_lt_of_cell? _ _ q1) qf1
  replace qf2 := k1.loose0 (World.block_lt_of_cell? _ _ q2) qf2
  replace qf3 := k1.loose0 (World.block_lt_of_cell? _ _ q3) qf3
  replace q0 := k1.cell0 q0
  replace q1 := k1.cell0 q1
  replace q2 := k1.cell0 q2
  replace q3 := k1.cell0 q3
  replace K := hide ((unhide K).trans k1)
  have z2 := k1.size
  clear k1
  obtain ⟨zs, hzs⟩ : ∃ y, wlm n = y := ⟨_, rfl⟩
  have hvz : (val zs).toNat = n.natAbs := by rw [← hzs, wlm_val, Int.toNat_natCast]
  have hnz : Nrm zs := by rw [← hzs]; exact wlm_nrm n
  rw [hzs] at o3 nw
  rw [unhide HS]
  clear hzs
  have l3 := o3.lt
  obtain ⟨nd, dd, ee⟩ := new_dya s 0 70 o3
  have kn := (Kept.refl 0 0 w1).alloc (.cells #[v3, .bool s, .int .i64 0] 70)
  obtain ⟨a3, c3, hv⟩ := own_slice o3
  subst hv
  replace qf0 := kn.loose0 (World.block_lt_of_cell? _ _ q0) qf0
  replace qf1 := kn.loose0 (World.block_lt_of_cell? _ _ q1) qf1
  replace qf2 := kn.loose0 (World.block_lt_of_cell? _ _ q2) qf2
  replace qf3 := kn.loose0 (World.block_lt_of_cell? _ _ q3) qf3
  replace q0 := kn.cell0 q0
  replace q1 := kn.cell0 q1
  replace q2 := kn.cell0 q2
  replace q3 := kn.cell0 q3
  replace K := hide ((unhide K).trans kn)
  have z3 := kn.size
  clear kn o3
  skip
  go_wp2_with fail
  generalize w1.alloc (.cells #[.slice a3 zs.length c3, .bool s, .int .i64 0] 70) = W9 at *
  have mk := toFloat_impl _ nd dd ee hnz (by omega) (by have := unhide S0; omega) (by omega) (by omega) mode (by omega) (by omega) (T.kept (unhide K))
  have hA2 : flA mode s n.natAbs 0 = A := by rw [← unhide HS]; exact unhide HA
  have hG2 : flG mode s n.natAbs 0 = G := by rw [← unhide HS]; exact unhide HG
  rw [hvz, hA2, hG2] at mk
  refine mk.mono ?_
  rintro e w7 ⟨rfl, m7⟩
  clear mk hA2 hG2
  have hS : ∀ i, (Value.slice a3 zs.length c3).ownBlock = some i → w.heap.size + 1 ≤ i := fun i e => by have := (l3 _ e).1; have := unhide S0; omega
  have nS : ¬ (Value.slice a3 zs.length c3).ownBlock = some w.heap.size := fun e => by have := hS _ e; omega
  replace qf0 := m7.loose (a := ⟨w.heap.size, 0, none⟩) nS (World.block_lt_of_cell? _ _ q0) qf0
  replace qf1 := m7.loose (a := ⟨w.heap.size, 1, none⟩) nS (World.block_lt_of_cell? _ _ q1) qf1
  replace qf2 := m7.loose (a := ⟨w.heap.size, 2, none⟩) nS (World.block_lt_of_cell? _ _ q2) qf2
  replace qf3 := m7.loose (a := ⟨w.heap.size, 3, none⟩) nS (World.block_lt_of_cell? _ _ q3) qf3
  replace q0 := m7.cell (a := ⟨w.heap.size, 0, none⟩) nS q0
  replace q1 := m7.cell (a := ⟨w.heap.size, 1, none⟩) nS q1
  replace q2 := m7.cell (a := ⟨w.heap.size, 2, none⟩) nS q2
  replace q3 := m7.cell (a := ⟨w.heap.size, 3, none⟩) nS q3
  replace K := hide ((unhide K).mod m7 (fun i e => by have := hS i e; omega))
  have z7 := m7.size
  clear m7 hS nS nd dd ee
  have KF := hide (((((unhide K).setNew (p := ⟨w.heap.size, 0, none⟩) (by simp) (.int .i64 A.1)).setNew (p := ⟨w.heap.size, 1, none⟩) (by simp) (.bool s)).setNew (p := ⟨w.heap.size, 2, none⟩) (by simp) (.int .i64 A.2.1)).setNew (p := ⟨w.heap.size, 3, none⟩) (by simp) (.int .i64 A.2.2))
  clear K
  try go_wp2_with fail
  exact bodyPost_ret (v := .tuple #[.agg #[.int .i64 A.1, .bool s, .int .i64 A.2.1, .int .i64 A.2.2], .int .i64 G]) (by simp [results, Tryd.results18, go_sem, q0, q1, q2, q3]) rfl ⟨by rw [(unhide FF).1, (unhide FF).2], unhide KF⟩

end Go.Proofs.YtpdgajfkhjdgaaaDoor
