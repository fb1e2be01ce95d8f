/-
  Roots of dyadic numbers: the program's DyRoot.
-/
import Derived.Test.YtadbdchjhglldaaGreatDoorRt3
namespace Go.Proofs.YtadbdchjhglldaaGreatDoor
open Go.RowKit
set_option linter.unusedVariables false
set_option maxRecDepth 8000
set_option linter.unusedSimpArgs false

/-- A root, rounded. -/
def rtM (mode : Nat) (V : Nat) (k : Int) : Int := wval false (limbs (rndN mode false (rtN V k) (rtL V k)))
theorem rt_len {zs : List Int} (hz : Lim zs) (nz : zs.length ≤ 100) (k : Int) (hk : k ≤ 9600) : (limbs (rtN (val zs).toNat k)).length ≤ 700 := by
  have h1 := limbs_len_le (rootN_le (scN (val zs).toNat k))
  have h2 := scN_len hz k 600 (by omega)
  unfold rtN
  omega
theorem rtM_lt {zs : List Int} (hz : Lim zs) (nz : zs.length ≤ 100) (mode : Nat) (k : Int) (hk : k ≤ 9600) : (rtM mode (val zs).toNat k).natAbs < 2 ^ (16 * 701) := by
  unfold rtM
  rw [wval_abs (limbs_lim _), limbs_val, Int.toNat_natCast]
  have e1 := rt_len hz nz k hk
  have e2 := rndN_len mode false (rtN (val zs).toNat k) (rtL (val zs).toNat k)
  have e3 : (limbs (rndN mode false (rtN (val zs).toNat k) (rtL (val zs).toNat k))).length ≤ 701 := by omega
  have e4 := (limbs_length_le _ _).1 e3
  rw [pow_limb] at e4
  exact_mod_cast e4

set_option maxHeartbeats 4000000 in
theorem droot_impl {bw : Bool} {lo hi : Nat} {v : Value} {zs : List Int} (s : Bool) (x : Int) (hx1 : x ≤ 9223372036854775807) (hx0 : -9223372036854775808 ≤ x) (low mode : Int) (w : World) (r : Row .i64 bw lo hi w v zs) (T : TabB w) :
    Calls Tryz.prog 21 #[.agg #[.bool s, v, .int .i64 x], .int .i64 low, .int .i64 mode] w fun e w' => ∃ v', e = .returned (.tuple #[.agg #[.bool (ansDS ((dokB s zs x && !s) && mayR low mode) (rtM mode.toNat (val zs).toNat (x - 2 * (low - 1))) (low)), v', .int .i64 (ansDE ((dokB s zs x && !s) && mayR low mode) (rtM mode.toNat (val zs).toNat (x - 2 * (low - 1))) (low))], .bool (ansDB ((dokB s zs x && !s) && mayR low mode) (rtM mode.toNat (val zs).toNat (x - 2 * (low - 1))) (low))]) ∧ Row .i64 true w.heap.size w'.heap.size w' v' (ansDL ((dokB s zs x && !s) && mayR low mode) (rtM mode.toNat (val zs).toNat (x - 2 * (low - 1))) (low)) ∧ Kept 0 0 w w' := by
  obtain ⟨GS, hGS⟩ : ∃ y, ansDS ((dokB s zs x && !s) && mayR low mode) (rtM mode.toNat (val zs).toNat (x - 2 * (low - 1))) (low) = y := ⟨_, rfl⟩
  obtain ⟨GL, hGL⟩ : ∃ y, ansDL ((dokB s zs x && !s) && mayR low mode) (rtM mode.toNat (val zs).toNat (x - 2 * (low - 1))) (low) = y := ⟨_, rfl⟩
  obtain ⟨GE, hGE⟩ : ∃ y, ansDE ((dokB s zs x && !s) && mayR low mode) (rtM mode.toNat (val zs).toNat (x - 2 * (low - 1))) (low) = y := ⟨_, rfl⟩
  obtain ⟨GB, hGB⟩ : ∃ y, ansDB ((dokB s zs x && !s) && mayR low mode) (rtM mode.toNat (val zs).toNat (x - 2 * (low - 1))) (low) = y := ⟨_, rfl⟩
  try rw [hGS]
  try rw [hGL]
  try rw [hGE]
  try rw [hGB]
  have HGS := hide hGS
  have HGL := hide hGL
  have HGE := hide hGE
  have HGB := hide hGB
  clear hGS hGL hGE hGB
  obtain ⟨Wn, hn0⟩ : ∃ wz, wz = ((w.alloc (.cells #[.bool s, v, .int .i64 x] 36)).alloc (.cells #[.bool false, .slice none 0 0, .int .i64 0] 36)) := ⟨_, rfl⟩
  have k0 : Kept 0 0 w Wn := by rw [hn0]; exact (((Kept.refl 0 0 w).alloc _).alloc _)
  have p0 : Wn.cell? ⟨w.heap.size, 0, none⟩ = some (.bool s) := by rw [hn0]; exact old_cell _ (new_cell2 _ _ _ _ _ _ (by simp) rfl)
  have p1 : Wn.cell? ⟨w.heap.size, 1, none⟩ = some (v) := by rw [hn0]; exact old_cell _ (new_cell2 _ _ _ _ _ _ (by simp) rfl)
  have p2 : Wn.cell? ⟨w.heap.size, 2, none⟩ = some (.int .i64 x) := by rw [hn0]; exact old_cell _ (new_cell2 _ _ _ _ _ _ (by simp) rfl)
  have q0 : Wn.cell? ⟨w.heap.size + 1, 0, none⟩ = some (.bool false) := by rw [hn0]; exact new_cell2 _ _ _ _ _ _ (by simp) rfl
  have qf0 : Wn.frozen? ⟨w.heap.size + 1, 0, none⟩ = false := by rw [hn0]; exact new_loose2 _ _ _ _ _ (by simp)
  have q1 : Wn.cell? ⟨w.heap.size + 1, 1, none⟩ = some (.slice none 0 0) := by rw [hn0]; exact new_cell2 _ _ _ _ _ _ (by simp) rfl
  have qf1 : Wn.frozen? ⟨w.heap.size + 1, 1, none⟩ = false := by rw [hn0]; exact new_loose2 _ _ _ _ _ (by simp)
  have q2 : Wn.cell? ⟨w.heap.size + 1, 2, none⟩ = some (.int .i64 0) := by rw [hn0]; exact new_cell2 _ _ _ _ _ _ (by simp) rfl
  have qf2 : Wn.frozen? ⟨w.heap.size + 1, 2, none⟩ = false := by rw [hn0]; exact new_loose2 _ _ _ _ _ (by simp)
  subst hn0
  replace r := r.kept k0 (by omega)
  have s0 : ((w.alloc (.cells #[.bool s, v, .int .i64 x] 36)).alloc (.cells #[.bool false, .slice none 0 0, .int .i64 0] 36)).heap.size = w.heap.size + 2 := by simp
  obtain ⟨a, c, hv⟩ := r.form'
  subst hv
  have K := hide (k0)
  clear k0
  have S0 := hide s0
  clear s0
  go_enter Tryz.func21, Tryz.ntmps21
  go_wp2_with fail
  generalize ((w.alloc (.cells #[.bool s, .slice a zs.length c, .int .i64 x] 36)).alloc (.cells #[.bool false, .slice none 0 0, .int .i64 0] 36)) = W at *
  refine (dok_impl s x hx1 hx0 _ r).mono ?_
  rintro e w1 ⟨rfl, k1⟩
  replace r := r.kp k1
  replace qf0 := k1.loose0 (zbl q0) qf0
  replace qf1 := k1.loose0 (zbl q1) qf1
  replace qf2 := k1.loose0 (zbl q2) qf2
  replace p0 := k1.cell0 p0
  replace p1 := k1.cell0 p1
  replace p2 := k1.cell0 p2
  replace q0 := k1.cell0 q0
  replace q1 := k1.cell0 q1
  replace q2 := k1.cell0 q2
  replace K := hide ((unhide K).trans k1)
  have z2 := k1.size
  clear k1
  cases ho : dokB s zs x
  ·have HB0 : Hid (((dokB s zs x && !s) && mayR low mode) = false) := by show _ = _; rw [ho]; rfl
   have HF : Hid (GS = false ∧ GL = [] ∧ GE = 0 ∧ GB = false) := by
    have hno : GB = false := by rw [← unhide HGB]; exact ansDB_no (unhide HB0)
    have hno' := hno
    rw [← unhide HGB] at hno'
    obtain ⟨b1, b2, b3⟩ := ansD_no hno'
    exact ⟨by rw [← unhide HGS, b1], by rw [← unhide HGL, b2], by rw [← unhide HGE, b3], hno⟩
   have KF := hide ((((unhide K).setNew (p := ⟨w.heap.size + 1, 0, none⟩) (by simp) (.bool false)).setNew (p := ⟨w.heap.size + 1, 1, none⟩) (by simp) (.slice none 0 0)).setNew (p := ⟨w.heap.size + 1, 2, none⟩) (by simp) (.int .i64 0))
   clear r K
   go_wp2_with fail
   exact bodyPost_ret (v := .tuple #[.agg #[.bool false, .slice none 0 0, .int .i64 0], .bool false]) (by simp [results, Tryz.results21, go_sem, q0, q1, q2]) rfl ⟨_, by rw [(unhide HF).1, (unhide HF).2.2.1, (unhide HF).2.2.2], by rw [(unhide HF).2.1]; exact Row.nil _ _ _ _ _, unhide KF⟩
  have HO := hide ho
  clear ho
  cases s
  rotate_left
  ·have HB0 : Hid (((dokB true zs x && !true) && mayR low mode) = false) := by show _ = _; simp
   have HF : Hid (GS = false ∧ GL = [] ∧ GE = 0 ∧ GB = false) := by
    have hno : GB = false := by rw [← unhide HGB]; exact ansDB_no (unhide HB0)
    have hno' := hno
    rw [← unhide HGB] at hno'
    obtain ⟨b1, b2, b3⟩ := ansD_no hno'
    exact ⟨by rw [← unhide HGS, b1], by rw [← unhide HGL, b2], by rw [← unhide HGE, b3], hno⟩
   have KF := hide ((((unhide K).setNew (p := ⟨w.heap.size + 1, 0, none⟩) (by simp) (.bool false)).setNew (p := ⟨w.heap.size + 1, 1, none⟩) (by simp) (.slice none 0 0)).setNew (p := ⟨w.heap.size + 1, 2, none⟩) (by simp) (.int .i64 0))
   clear r K
   go_wp2_with fail
   exact bodyPost_ret (v := .tuple #[.agg #[.bool false, .slice none 0 0, .int .i64 0], .bool false]) (by simp [results, Tryz.results21, go_sem, q0, q1, q2]) rfl ⟨_, by rw [(unhide HF).1, (unhide HF).2.2.1, (unhide HF).2.2.2], by rw [(unhide HF).2.1]; exact Row.nil _ _ _ _ _, unhide KF⟩
  go_wp2_with fail
  refine (mayRound_impl low mode _).mono ?_
  rintro e w5 ⟨rfl, rfl⟩
  cases hk : mayR low mode
  ·have HB0 : Hid (((dokB false zs x && !false) && mayR low mode) = false) := by show _ = _; rw [hk]; simp
   have HF : Hid (GS = false ∧ GL = [] ∧ GE = 0 ∧ GB = false) := by
    have hno : GB = false := by rw [← unhide HGB]; exact ansDB_no (unhide HB0)
    have hno' := hno
    rw [← unhide HGB] at hno'
    obtain ⟨b1, b2, b3⟩ := ansD_no hno'
    exact ⟨by rw [← unhide HGS, b1], by rw [← unhide HGL, b2], by rw [← unhide HGE, b3], hno⟩
   have KF := hide ((((unhide K).setNew (p := ⟨w.heap.size + 1, 0, none⟩) (by simp) (.bool false)).setNew (p := ⟨w.heap.size + 1, 1, none⟩) (by simp) (.slice none 0 0)).setNew (p := ⟨w.heap.size + 1, 2, none⟩) (by simp) (.int .i64 0))
   clear r K
   go_wp2_with fail
   exact bodyPost_ret (v := .tuple #[.agg #[.bool false, .slice none 0 0, .int .i64 0], .bool false]) (by simp [results, Tryz.results21, go_sem, q0, q1, q2]) rfl ⟨_, by rw [(unhide HF).1, (unhide HF).2.2.1, (unhide HF).2.2.2], by rw [(unhide HF).2.1]; exact Row.nil _ _ _ _ _, unhide KF⟩
  have HC : Hid (((dokB false zs x && !false) && mayR low mode) = true) := by show _ = _; rw [unhide HO, hk]; rfl
  obtain ⟨h1, h2, h3, h4, h5⟩ := dok_parts (unhide HO)
  obtain ⟨-, -, hl, hn⟩ := wok_int h1
  have hmm := mayR_iff hk
  clear hk h1
  go_wp2_with fail
  refine (dyadicOf_impl false x _ r (by omega)).mono ?_
  rintro e w3 ⟨v3, rfl, o3, k3⟩
  replace r := r.kp k3
  replace qf0 := k3.loose0 (zbl q0) qf0
  replace qf1 := k3.loose0 (zbl q1) qf1
  replace qf2 := k3.loose0 (zbl q2) qf2
  replace p0 := k3.cell0 p0
  replace p1 := k3.cell0 p1
  replace p2 := k3.cell0 p2
  replace q0 := k3.cell0 q0
  replace q1 := k3.cell0 q1
  replace q2 := k3.cell0 q2
  replace K := hide ((unhide K).trans k3)
  have z4 := k3.size
  clear k3
  clear r
  have l3 := o3.lt
  obtain ⟨nd, dd, ee⟩ := new_dya false x 69 o3
  have kn := (Kept.refl 0 0 w3).alloc (.cells #[v3, .bool false, .int .i64 x] 69)
  obtain ⟨a3, c3, hv⟩ := own_slice o3
  subst hv
  replace qf0 := kn.loose0 (zbl q0) qf0
  replace qf1 := kn.loose0 (zbl q1) qf1
  replace qf2 := kn.loose0 (zbl q2) qf2
  replace p0 := kn.cell0 p0
  replace p1 := kn.cell0 p1
  replace p2 := kn.cell0 p2
  replace q0 := kn.cell0 q0
  replace q1 := kn.cell0 q1
  replace q2 := kn.cell0 q2
  replace K := hide ((unhide K).trans kn)
  have z5 := kn.size
  clear kn o3
  skip
  go_wp2_with fail
  generalize w3.alloc (.cells #[.slice a3 zs.length c3, .bool false, .int .i64 x] 69) = W9 at *
  obtain ⟨M, hM⟩ : ∃ y, rtM mode.toNat (val zs).toNat (x - 2 * (low - 1)) = y := ⟨_, rfl⟩
  obtain ⟨H, hH⟩ : ∃ y, rtN (val zs).toNat (x - 2 * (low - 1)) = y := ⟨_, rfl⟩
  obtain ⟨L, hL⟩ : ∃ y, rtL (val zs).toNat (x - 2 * (low - 1)) = y := ⟨_, rfl⟩
  have nH : (limbs H).length ≤ 700 := by rw [← hH]; exact rt_len hn.1 hl (x - 2 * (low - 1)) (by omega)
  have hM2 : wval false (limbs (rndN mode.toNat false H L)) = M := by rw [← hH, ← hL]; exact hM
  have hgs := unhide HGS
  have hgl := unhide HGL
  have hge := unhide HGE
  have hgb := unhide HGB
  rw [hM, unhide HC] at hgs hgl hge hgb
  clear hM
  have mc := cutRoot_impl _ nd ee hn (by omega) (by have := unhide S0; omega) low (by omega) (by omega) (by omega) (by omega) (by omega) (T.kept (unhide K))
  rw [hH, hL] at mc
  clear hH hL
  refine mc.mono ?_
  rintro e w6 ⟨u6, rfl, o6, m6⟩
  clear mc
  have hS : ∀ i, Own1 (w3.heap.size) (.slice a3 zs.length c3) i → w.heap.size + 2 ≤ i := fun i e => e.elim (fun e => by have := unhide S0; omega) (fun e => by have := (l3 _ e).1; have := unhide S0; omega)
  have nS : ¬ Own1 (w3.heap.size) (.slice a3 zs.length c3) (w.heap.size + 1) := fun e => by have := hS _ e; omega
  replace qf0 := m6.loose (a := ⟨w.heap.size + 1, 0, none⟩) nS (zbl q0) qf0
  replace qf1 := m6.loose (a := ⟨w.heap.size + 1, 1, none⟩) nS (zbl q1) qf1
  replace qf2 := m6.loose (a := ⟨w.heap.size + 1, 2, none⟩) nS (zbl q2) qf2
  replace q0 := m6.cell (a := ⟨w.heap.size + 1, 0, none⟩) nS q0
  replace q1 := m6.cell (a := ⟨w.heap.size + 1, 1, none⟩) nS q1
  replace q2 := m6.cell (a := ⟨w.heap.size + 1, 2, none⟩) nS q2
  replace K := hide ((unhide K).mod m6 (fun i e => by have := hS i e; omega))
  have z6 := m6.size
  clear m6 hS nS nd dd ee p0 p1 p2
  obtain ⟨a6, c6, hv⟩ := Row.form' o6.row
  subst hv
  have l6 := fun i (e : (Value.slice a6 (limbs H).length c6).ownBlock = some i) => o6.lt e
  obtain ⟨n7, d7, e7, m7⟩ := new_half false low L 72 o6
  have kn := (Kept.refl 0 0 w6).alloc (.cells #[.slice a6 (limbs H).length c6, .bool false, .int .i64 low, .bool L] 72)
  have z7 : (w6.alloc (.cells #[.slice a6 (limbs H).length c6, .bool false, .int .i64 low, .bool L] 72)).heap.size = w6.heap.size + 1 := by simp
  replace qf0 := kn.loose0 (zbl q0) qf0
  replace qf1 := kn.loose0 (zbl q1) qf1
  replace qf2 := kn.loose0 (zbl q2) qf2
  replace q0 := kn.cell0 q0
  replace q1 := kn.cell0 q1
  replace q2 := kn.cell0 q2
  replace K := hide ((unhide K).trans kn)
  have z6 := kn.size
  clear kn o6
  go_wp2_with fail
  generalize w6.alloc (.cells #[.slice a6 (limbs H).length c6, .bool false, .int .i64 low, .bool L] 72) = W7 at *
  have hr := rounded_impl _ n7 (limbs_nrm _) (by omega) d7 e7 m7 (by have := unhide S0; omega) mode (by omega) (by omega)
  rw [limbs_val, Int.toNat_natCast] at hr
  obtain ⟨R, hR⟩ : ∃ y, rndN mode.toNat false H L = y := ⟨_, rfl⟩
  rw [hR] at hr
  have nR : (limbs R).length ≤ 701 := by rw [← hR]; have := rndN_len mode.toNat false H L; omega
  rw [hR] at hM2
  clear hR
  refine hr.mono ?_
  rintro e w9 ⟨u9, rfl, o9, m9⟩
  clear hr
  have hS : ∀ i, Own1 w6.heap.size (.slice a6 (limbs H).length c6) i → w.heap.size + 2 ≤ i := fun i e => e.elim (fun e => by have := unhide S0; omega) (fun e => by have := (l6 _ e).1; have := unhide S0; omega)
  have nS : ¬ Own1 w6.heap.size (.slice a6 (limbs H).length c6) (w.heap.size + 1) := fun e => by have := hS _ e; omega
  replace qf0 := m9.loose (a := ⟨w.heap.size + 1, 0, none⟩) nS (zbl q0) qf0
  replace qf1 := m9.loose (a := ⟨w.heap.size + 1, 1, none⟩) nS (zbl q1) qf1
  replace qf2 := m9.loose (a := ⟨w.heap.size + 1, 2, none⟩) nS (zbl q2) qf2
  replace q0 := m9.cell (a := ⟨w.heap.size + 1, 0, none⟩) nS q0
  replace q1 := m9.cell (a := ⟨w.heap.size + 1, 1, none⟩) nS q1
  replace q2 := m9.cell (a := ⟨w.heap.size + 1, 2, none⟩) nS q2
  replace K := hide ((unhide K).mod m9 (fun i e => by have := hS i e; omega))
  have z9 := m9.size
  clear m9 hS nS n7 d7 e7 m7 l6
  obtain ⟨a9, c9, hv⟩ := Row.form' o9.row
  subst hv
  have l9 := fun i (e : (Value.slice a9 (limbs R).length c9).ownBlock = some i) => o9.lt e
  obtain ⟨nA, dA, eA⟩ := new_dyaA false low 69 o9
  have kn := (Kept.refl 0 0 w9).alloc (.cells #[.slice a9 (limbs R).length c9, .bool false, .int .i64 low] 69)
  have zA : (w9.alloc (.cells #[.slice a9 (limbs R).length c9, .bool false, .int .i64 low] 69)).heap.size = w9.heap.size + 1 := by simp
  replace qf0 := kn.loose0 (zbl q0) qf0
  replace qf1 := kn.loose0 (zbl q1) qf1
  replace qf2 := kn.loose0 (zbl q2) qf2
  replace q0 := kn.cell0 q0
  replace q1 := kn.cell0 q1
  replace q2 := kn.cell0 q2
  replace K := hide ((unhide K).trans kn)
  have z7 := kn.size
  clear kn o9
  go_wp2_with fail
  generalize w9.alloc (.cells #[.slice a9 (limbs R).length c9, .bool false, .int .i64 low] 69) = WA at *
  have ht := toldDyadic_wrk M hM2 _ nA dA eA (limbs_nrm _) (by omega) (by omega) (by omega) (T.kept (unhide K))
  rw [hgs, hgl, hge, hgb] at ht
  refine ht.mono ?_
  rintro e wB ⟨v7, rfl, r7, mB⟩
  clear ht hgs hgl hge hgb hM2
  have hS : ∀ i, Own1 w9.heap.size (.slice a9 (limbs R).length c9) i → w.heap.size + 2 ≤ i := fun i e => e.elim (fun e => by have := unhide S0; omega) (fun e => by have := (l9 _ e).1; have := unhide S0; omega)
  have nS : ¬ Own1 w9.heap.size (.slice a9 (limbs R).length c9) (w.heap.size + 1) := fun e => by have := hS _ e; omega
  replace qf0 := mB.loose (a := ⟨w.heap.size + 1, 0, none⟩) nS (zbl q0) qf0
  replace qf1 := mB.loose (a := ⟨w.heap.size + 1, 1, none⟩) nS (zbl q1) qf1
  replace qf2 := mB.loose (a := ⟨w.heap.size + 1, 2, none⟩) nS (zbl q2) qf2
  replace q0 := mB.cell (a := ⟨w.heap.size + 1, 0, none⟩) nS q0
  replace q1 := mB.cell (a := ⟨w.heap.size + 1, 1, none⟩) nS q1
  replace q2 := mB.cell (a := ⟨w.heap.size + 1, 2, none⟩) nS q2
  replace K := hide ((unhide K).mod mB (fun i e => by have := hS i e; omega))
  have zB := mB.size
  clear mB hS nS nA dA eA l9 nR nH hn
  obtain ⟨a7, c7, hv⟩ := Row.form' r7
  subst hv
  have R := hide ((((r7.set_other (p := ⟨w.heap.size + 1, 0, none⟩) (.inl (by have := unhide S0; dsimp only; omega)) (.bool GS)).set_other (p := ⟨w.heap.size + 1, 1, none⟩) (.inl (by have := unhide S0; dsimp only; omega)) (.slice a7 GL.length c7)).set_other (p := ⟨w.heap.size + 1, 2, none⟩) (.inl (by have := unhide S0; dsimp only; omega)) (.int .i64 GE)).tight.wider (lo' := w.heap.size) (by have := unhide S0; omega) (Nat.le_refl _))
  have K7 := hide ((((unhide K).setNew (p := ⟨w.heap.size + 1, 0, none⟩) (by simp) (.bool GS)).setNew (p := ⟨w.heap.size + 1, 1, none⟩) (by simp) (.slice a7 GL.length c7)).setNew (p := ⟨w.heap.size + 1, 2, none⟩) (by simp) (.int .i64 GE))
  clear r7 K 
  go_wp2_with fail
  exact bodyPost_ret (v := .tuple #[.agg #[.bool GS, .slice a7 GL.length c7, .int .i64 GE], .bool GB]) (by simp [results, Tryz.results21, go_sem, q0, q1, q2]) rfl ⟨_, rfl, unhide R, unhide K7⟩

end Go.Proofs.YtadbdchjhglldaaGreatDoor

