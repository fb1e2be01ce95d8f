/-
  Floats of numbers: FlRound and FlOfInt, the model's and the program's.
-/
import Derived.Test.YtckaecmkidplhaaGreatDoorBU
import Derived.Test.YtckaecmkidplhaaGreatDoorFlt3
namespace Go.Proofs.YtckaecmkidplhaaGreatDoor
open Go.RowKit
set_option linter.unusedVariables false
set_option maxRecDepth 8000
set_option linter.unusedSimpArgs false

set_option maxHeartbeats 400000 in
theorem bad_impl (w : World) :
    Calls Tryz.prog 45 #[] w fun e w' => e = .returned (.tuple #[flv 3 false 0 0, .int .i64 16]) ∧ Kept 0 0 w w' := by
  go_enter Tryz.func45, Tryz.ntmps45
  go_wp2_with fail
  exact bodyPost_ret (v := .tuple #[flv 3 false 0 0, .int .i64 16]) (by simp [results, Tryz.results45, go_sem]) rfl ⟨rfl, (Kept.refl 0 0 w).alloc _⟩

/-- The float of an int; its flags. -/
def fiQ (n mode : Int) : Int × Bool × Int × Int := if modeB mode = true then ((flA mode (wsg n) n.natAbs 0).1, wsg n, (flA mode (wsg n) n.natAbs 0).2.1, (flA mode (wsg n) n.natAbs 0).2.2) else (3, false, 0, 0)
def fiG (n mode : Int) : Int := if modeB mode = true then flG mode (wsg n) n.natAbs 0 else 16

set_option maxHeartbeats 4000000 in
theorem flofint_impl (n mode : Int) (hn1 : n ≤ 9223372036854775807) (hn0 : -9223372036854775808 ≤ n) (w : World) (T : TabB w) :
    Calls Tryz.prog 30 #[.int .i64 n, .int .i64 mode] w fun e w' => e = .returned (.tuple #[flq (fiQ n mode), .int .i64 (fiG n mode)]) ∧ Kept 0 0 w w' := by
  obtain ⟨Q, hQ⟩ : ∃ y, fiQ n mode = y := ⟨_, rfl⟩
  obtain ⟨GF, hGF⟩ : ∃ y, fiG n mode = y := ⟨_, rfl⟩
  rw [hQ, hGF]
  have HQ := hide hQ
  have HGF := hide hGF
  clear hQ hGF
  have k0 : Kept 0 0 w (w.alloc (.cells #[.int .i64 0, .bool false, .int .i64 0, .int .i64 0] 25)) := ((Kept.refl 0 0 w).alloc (.cells #[.int .i64 0, .bool false, .int .i64 0, .int .i64 0] 25))
  have q0 : (w.alloc (.cells #[.int .i64 0, .bool false, .int .i64 0, .int .i64 0] 25)).cell? ⟨w.heap.size, 0, none⟩ = some (.int .i64 0) := new_cell2 _ _ _ _ _ _ (by simp) rfl
  have qf0 : (w.alloc (.cells #[.int .i64 0, .bool false, .int .i64 0, .int .i64 0] 25)).frozen? ⟨w.heap.size, 0, none⟩ = false := new_loose2 _ _ _ _ _ (by simp)
  have q1 : (w.alloc (.cells #[.int .i64 0, .bool false, .int .i64 0, .int .i64 0] 25)).cell? ⟨w.heap.size, 1, none⟩ = some (.bool false) := new_cell2 _ _ _ _ _ _ (by simp) rfl
  have qf1 : (w.alloc (.cells #[.int .i64 0, .bool false, .int .i64 0, .int .i64 0] 25)).frozen? ⟨w.heap.size, 1, none⟩ = false := new_loose2 _ _ _ _ _ (by simp)
  have q2 : (w.alloc (.cells #[.int .i64 0, .bool false, .int .i64 0, .int .i64 0] 25)).cell? ⟨w.heap.size, 2, none⟩ = some (.int .i64 0) := new_cell2 _ _ _ _ _ _ (by simp) rfl
  have qf2 : (w.alloc (.cells #[.int .i64 0, .bool false, .int .i64 0, .int .i64 0] 25)).frozen? ⟨w.heap.size, 2, none⟩ = false := new_loose2 _ _ _ _ _ (by simp)
  have q3 : (w.alloc (.cells #[.int .i64 0, .bool false, .int .i64 0, .int .i64 0] 25)).cell? ⟨w.heap.size, 3, none⟩ = some (.int .i64 0) := new_cell2 _ _ _ _ _ _ (by simp) rfl
  have qf3 : (w.alloc (.cells #[.int .i64 0, .bool false, .int .i64 0, .int .i64 0] 25)).frozen? ⟨w.heap.size, 3, none⟩ = false := new_loose2 _ _ _ _ _ (by simp)
  have s0 : (w.alloc (.cells #[.int .i64 0, .bool false, .int .i64 0, .int .i64 0] 25)).heap.size = w.heap.size + 1 := by simp
  have K := hide (k0)
  clear k0
  have S0 := hide s0
  clear s0
  go_enter Tryz.func30, Tryz.ntmps30
  go_wp2_with fail
  generalize (w.alloc (.cells #[.int .i64 0, .bool false, .int .i64 0, .int .i64 0] 25)) = W at *
  refine (isMode_impl mode _).mono ?_
  rintro e w5 ⟨rfl, rfl⟩
  cases hm : modeB mode
  · have FF : Hid (Q = (3, false, 0, 0) ∧ GF = 16) := ⟨by rw [← unhide HQ]; unfold fiQ; rw [hm]; rfl, by rw [← unhide HGF]; unfold fiG; rw [hm]; rfl⟩
    clear hm
    go_wp2_with fail
    refine (bad_impl _).mono ?_
    rintro e w1 ⟨rfl, k1⟩
    replace qf0 := k1.loose0 (World.block_lt_of_cell? _ _ q0) qf0
    replace qf1 := k1.loose0 (World.block_lt_of_cell? _ _ q1) qf1
    replace qf2 := k1.loose0 (World.block_lt_of_cell? _ _ q2) qf2
    replace qf3 := k1.loose0 (World.block_lt_of_cell? _ _ q3) qf3
    replace q0 := k1.cell0 q0
    replace q1 := k1.cell0 q1
    replace q2 := k1.cell0 q2
    replace q3 := k1.cell0 q3
    replace K := hide ((unhide K).trans k1)
    have z2 := k1.size
    clear k1
    have KF := hide (((((unhide K).setNew (p := ⟨w.heap.size, 0, none⟩) (by simp) (.int .i64 3)).setNew (p := ⟨w.heap.size, 1, none⟩) (by simp) (.bool false)).setNew (p := ⟨w.heap.size, 2, none⟩) (by simp) (.int .i64 0)).setNew (p := ⟨w.heap.size, 3, none⟩) (by simp) (.int .i64 0))
    clear K
    try go_wp2_with fail
    exact bodyPost_ret (v := .tuple #[.agg #[.int .i64 3, .bool false, .int .i64 0, .int .i64 0], .int .i64 16]) (by simp [results, Tryz.results30, go_sem, q0, q1, q2, q3]) rfl ⟨by rw [(unhide FF).1, (unhide FF).2], unhide KF⟩
  have hmm : 0 ≤ mode ∧ mode ≤ 4 := by unfold modeB at hm; simpa using hm
  obtain ⟨A, hA⟩ : ∃ y, flA mode (wsg n) n.natAbs 0 = y := ⟨_, rfl⟩
  obtain ⟨G, hG⟩ : ∃ y, flG mode (wsg n) n.natAbs 0 = y := ⟨_, rfl⟩
  obtain ⟨s, hs⟩ : ∃ y, wsg n = y := ⟨_, rfl⟩
  have FF : Hid (Q = (A.1, s, A.2.1, A.2.2) ∧ GF = G) := ⟨by rw [← unhide HQ]; unfold fiQ; rw [hm, if_pos rfl, hA, hs], by rw [← unhide HGF]; unfold fiG; rw [hm, if_pos rfl, hG]⟩
  have HS := hide hs
  have HA := hide hA
  have HG := hide hG
  clear hm hs hA hG
  have nw : (wlm n).length ≤ 4 := (limbs_length_le _ _).2 (by rw [show (65536 : Int) ^ 4 = 18446744073709551616 by decide]; omega)
  go_wp2_with fail
  refine (signedOfInt_impl n hn1 hn0 _).mono ?_
  rintro e w1 ⟨v3, rfl, o3, k1⟩
  replace qf0 := k1.loose0 (World.block_lt_of_cell? _ _ q0) qf0
  replace qf1 := k1.loose0 (World.block_lt_of_cell? _ _ q1) qf1
  replace qf2 := k1.loose0 (World.block_lt_of_cell? _ _ q2) qf2
  replace qf3 := k1.loose0 (World.block_lt_of_cell? _ _ q3) qf3
  replace q0 := k1.cell0 q0
  replace q1 := k1.cell0 q1
  replace q2 := k1.cell0 q2
  replace q3 := k1.cell0 q3
  replace K := hide ((unhide K).trans k1)
  have z2 := k1.size
  clear k1
  obtain ⟨zs, hzs⟩ : ∃ y, wlm n = y := ⟨_, rfl⟩
  have hvz : (val zs).toNat = n.natAbs := by rw [← hzs, wlm_val, Int.toNat_natCast]
  have hnz : Nrm zs := by rw [← hzs]; exact wlm_nrm n
  rw [hzs] at o3 nw
  rw [unhide HS]
  clear hzs
  have l3 := o3.lt
  obtain ⟨nd, dd, ee⟩ := new_dya s 0 93 o3
  have kn := (Kept.refl 0 0 w1).alloc (.cells #[v3, .bool s, .int .i64 0] 93)
  obtain ⟨a3, c3, hv⟩ := own_slice o3
  subst hv
  replace qf0 := kn.loose0 (World.block_lt_of_cell? _ _ q0) qf0
  replace qf1 := kn.loose0 (World.block_lt_of_cell? _ _ q1) qf1
  replace qf2 := kn.loose0 (World.block_lt_of_cell? _ _ q2) qf2
  replace qf3 := kn.loose0 (World.block_lt_of_cell? _ _ q3) qf3
  replace q0 := kn.cell0 q0
  replace q1 := kn.cell0 q1
  replace q2 := kn.cell0 q2
  replace q3 := kn.cell0 q3
  replace K := hide ((unhide K).trans kn)
  have z3 := kn.size
  clear kn o3
  skip
  go_wp2_with fail
  generalize w1.alloc (.cells #[.slice a3 zs.length c3, .bool s, .int .i64 0] 93) = W9 at *
  have mk := toFloat_impl _ nd dd ee hnz (by omega) (by have := unhide S0; omega) (by omega) (by omega) mode (by omega) (by omega) (T.kept (unhide K))
  have hA2 : flA mode s n.natAbs 0 = A := by rw [← unhide HS]; exact unhide HA
  have hG2 : flG mode s n.natAbs 0 = G := by rw [← unhide HS]; exact unhide HG
  rw [hvz, hA2, hG2] at mk
  refine mk.mono ?_
  rintro e w7 ⟨rfl, m7⟩
  clear mk hA2 hG2
  have hS : ∀ i, (Value.slice a3 zs.length c3).ownBlock = some i → w.heap.size + 1 ≤ i := fun i e => by have := (l3 _ e).1; have := unhide S0; omega
  have nS : ¬ (Value.slice a3 zs.length c3).ownBlock = some w.heap.size := fun e => by have := hS _ e; omega
  replace qf0 := m7.loose (a := ⟨w.heap.size, 0, none⟩) nS (World.block_lt_of_cell? _ _ q0) qf0
  replace qf1 := m7.loose (a := ⟨w.heap.size, 1, none⟩) nS (World.block_lt_of_cell? _ _ q1) qf1
  replace qf2 := m7.loose (a := ⟨w.heap.size, 2, none⟩) nS (World.block_lt_of_cell? _ _ q2) qf2
  replace qf3 := m7.loose (a := ⟨w.heap.size, 3, none⟩) nS (World.block_lt_of_cell? _ _ q3) qf3
  replace q0 := m7.cell (a := ⟨w.heap.size, 0, none⟩) nS q0
  replace q1 := m7.cell (a := ⟨w.heap.size, 1, none⟩) nS q1
  replace q2 := m7.cell (a := ⟨w.heap.size, 2, none⟩) nS q2
  replace q3 := m7.cell (a := ⟨w.heap.size, 3, none⟩) nS q3
  replace K := hide ((unhide K).mod m7 (fun i e => by have := hS i e; omega))
  have z7 := m7.size
  clear m7 hS nS nd dd ee
  have KF := hide (((((unhide K).setNew (p := ⟨w.heap.size, 0, none⟩) (by simp) (.int .i64 A.1)).setNew (p := ⟨w.heap.size, 1, none⟩) (by simp) (.bool s)).setNew (p := ⟨w.heap.size, 2, none⟩) (by simp) (.int .i64 A.2.1)).setNew (p := ⟨w.heap.size, 3, none⟩) (by simp) (.int .i64 A.2.2))
  clear K
  try go_wp2_with fail
  exact bodyPost_ret (v := .tuple #[.agg #[.int .i64 A.1, .bool s, .int .i64 A.2.1, .int .i64 A.2.2], .int .i64 G]) (by simp [results, Tryz.results30, go_sem, q0, q1, q2, q3]) rfl ⟨by rw [(unhide FF).1, (unhide FF).2], unhide KF⟩

end Go.Proofs.YtckaecmkidplhaaGreatDoor

