/-
  Roots of dyadic numbers: the model's DyRoot.
-/
import Derived.Test.YtocmecjadhodfaaDoorRt4
import Derived.Test.YtocmecjadhodfaaDoorRt5
namespace Go.Proofs.YtocmecjadhodfaaDoor
open Go.RowKit
set_option linter.unusedVariables false
set_option maxRecDepth 8000
set_option linter.unusedSimpArgs false

theorem rtM_zero (mode : Nat) (k : Int) : rtM mode 0 k = 0 := by
  unfold rtM
  rw [(rt_zero k).1, (rt_zero k).2]
  have e : rndN mode false 0 false = 0 := by
    unfold rndN
    rw [show rndX 0 false = true from rfl]
    rfl
  rw [e, limbs_zero, wval_nil]
theorem rndM_zero' (mode : Nat) (s : Bool) (k : Int) : rndM mode s 0 k = 0 := by
  unfold rndM
  rw [(rnd_zero k mode s).2, limbs_zero, wval_nil]
/-- what l4sqrt answers: a number in its one form, and what it rounds to. -/
structure RtAns (S : Bool) (zs : List Int) (E low : Int) (V : Nat) (k : Int) : Prop where
  wn : WN S zs
  odd : zs ≠ [] → val zs % 2 = 1
  nil : zs = [] → E = 0
  len : zs.length ≤ 40000
  lo : -200000 ≤ E
  hi : E ≤ 200000
  pos : zs ≠ [] → S = false
  cut : zs ≠ [] → scN (val zs).toNat (E - (low - 1)) = rtN V k ∧ scL (val zs).toNat (E - (low - 1)) = rtL V k
  rnd : ∀ mode : Nat, rndM mode S (val zs).toNat (E - (low - 1)) = rtM mode V k
theorem rtAns_pos {xs : List Int} (hx : Lim xs) (nx : xs.length ≤ 100) (hV : (val xs).toNat ≠ 0) (k low : Int) (hk : k ≤ 9500) (hl0 : -10000 ≤ low) (hl1 : low ≤ 10000) :
    RtAns (wsg (wval false (limbs (rtQ (val xs).toNat (k + 2))))) (dlm (wval false (limbs (rtQ (val xs).toNat (k + 2))))) (dex (wval false (limbs (rtQ (val xs).toNat (k + 2)))) (low - 3)) low (val xs).toNat k := by
  have q1 := rt_round (val xs).toNat hV k low false
  have q2 := rt_pos (val xs).toNat hV (k + 2)
  have b3 : (limbs (rtQ (val xs).toNat (k + 2))).length ≤ 702 := by
    have h1 : rtQ (val xs).toNat (k + 2) ≤ rtN (val xs).toNat (k + 2) * 2 + 1 := by unfold rtQ; split <;> omega
    have h0 := rt_len hx nx (k + 2) (by omega)
    have h2 := limbs_len_le h1
    have h3 := limbs_succ_len (limbs (rtN (val xs).toNat (k + 2) * 2)) (limbs_nrm _)
    rw [limbs_val, Int.toNat_natCast] at h3
    have h4 := shl_len_le' (rtN (val xs).toNat (k + 2)) 1 h0
    rw [Nat.pow_one] at h4
    omega
  generalize rtQ (val xs).toNat (k + 2) = Q at *
  have ha : (wval false (limbs Q)).natAbs = Q := by rw [wval_abs (limbs_lim Q), limbs_val, Int.toNat_natCast]
  have hne : wval false (limbs Q) ≠ 0 := by intro e; rw [e] at ha; simp at ha; omega
  have hw : WN false (limbs Q) := ⟨limbs_nrm _, fun h => by cases h⟩
  have hsg := wn_sign hw
  have hd := dlm_pos hne
  obtain ⟨NN, hNN⟩ : ∃ n : Nat, n = 702 := ⟨_, rfl⟩
  rw [← hNN] at b3
  have b4 : Q < 2 ^ (16 * NN) := (limbs_len_two _ _).1 b3
  have ht := tz_lt q2 b4
  have he : dex (wval false (limbs Q)) (low - 3) = low - 3 + (tz Q : Int) := by unfold dex; rw [if_neg hne, ha]
  refine ⟨⟨limbs_nrm _, fun _ => hd.1⟩, fun _ => hd.2, fun h => ?_, ?_, ?_, ?_, fun _ => hsg, fun _ => q1, fun mode => ?_⟩
  · rw [h] at hd; exact absurd hd.1 (by simp)
  · unfold dlm
    rw [ha]
    have l1 := limbs_len_le (Nat.div_le_self Q (2 ^ tz Q))
    omega
  · omega
  · omega
  · unfold rndM rtM
    rw [q1.1, q1.2, hsg]
theorem rtAns_zero (low : Int) (k : Int) : RtAns false [] 0 low 0 k :=
  ⟨⟨limbs_zero ▸ limbs_nrm 0, fun h => by cases h⟩, fun h => absurd rfl h, fun _ => rfl, by simp, by omega, by omega, fun h => absurd rfl h, fun h => absurd rfl h, fun mode => by rw [show (val []).toNat = 0 from rfl, rndM_zero', rtM_zero]⟩

set_option maxHeartbeats 4000000 in
theorem l4sqrt_nil {bw : Bool} {lo hi : Nat} {v : Value} {zs : List Int} (s : Bool) (x low : Int) (hl0 : -10000 ≤ low) (hl1 : low ≤ 10000) (hk1 : x - 2 * (low - 1) ≤ 9500) (w : World) (r : Row .i64 bw lo hi w v zs) (o1 : dokB s zs x = true) (hzn : zs.length = 0) :
    Calls Tryd.prog 15 #[.agg #[.bool s, v, .int .i64 x], .int .i64 low] w fun e w' => e = .returned (.agg #[.bool false, .slice none 0 0, .int .i64 0]) ∧ Kept 0 0 w w' := by
  replace r := r.tight
  have k0 : Kept 0 0 w ((w.alloc (.cells #[.bool s, v, .int .i64 x] 34)).alloc (.cells #[.bool false, .slice none 0 0, .int .i64 0] 34)) := (((Kept.refl 0 0 w).alloc (.cells #[.bool s, v, .int .i64 x] 34)).alloc (.cells #[.bool false, .slice none 0 0, .int .i64 0] 34))
  have p0 : ((w.alloc (.cells #[.bool s, v, .int .i64 x] 34)).alloc (.cells #[.bool false, .slice none 0 0, .int .i64 0] 34)).cell? ⟨w.heap.size, 0, none⟩ = some (.bool s) := old_cell _ (new_cell2 _ _ _ _ _ _ (by simp) rfl)
  have p1 : ((w.alloc (.cells #[.bool s, v, .int .i64 x] 34)).alloc (.cells #[.bool false, .slice none 0 0, .int .i64 0] 34)).cell? ⟨w.heap.size, 1, none⟩ = some (v) := old_cell _ (new_cell2 _ _ _ _ _ _ (by simp) rfl)
  have p2 : ((w.alloc (.cells #[.bool s, v, .int .i64 x] 34)).alloc (.cells #[.bool false, .slice none 0 0, .int .i64 0] 34)).cell? ⟨w.heap.size, 2, none⟩ = some (.int .i64 x) := old_cell _ (new_cell2 _ _ _ _ _ _ (by simp) rfl)
  have q0 : ((w.alloc (.cells #[.bool s, v, .int .i64 x] 34)).alloc (.cells #[.bool false, .slice none 0 0, .int .i64 0] 34)).cell? ⟨w.heap.size + 1, 0, none⟩ = some (.bool false) := new_cell2 _ _ _ _ _ _ (by simp) rfl
  have qf0 : ((w.alloc (.cells #[.bool s, v, .int .i64 x] 34)).alloc (.cells #[.bool false, .slice none 0 0, .int .i64 0] 34)).frozen? ⟨w.heap.size + 1, 0, none⟩ = false := new_loose2 _ _ _ _ _ (by simp)
  have q1 : ((w.alloc (.cells #[.bool s, v, .int .i64 x] 34)).alloc (.cells #[.bool false, .slice none 0 0, .int .i64 0] 34)).cell? ⟨w.heap.size + 1, 1, none⟩ = some (.slice none 0 0) := new_cell2 _ _ _ _ _ _ (by simp) rfl
  have qf1 : ((w.alloc (.cells #[.bool s, v, .int .i64 x] 34)).alloc (.cells #[.bool false, .slice none 0 0, .int .i64 0] 34)).frozen? ⟨w.heap.size + 1, 1, none⟩ = false := new_loose2 _ _ _ _ _ (by simp)
  have q2 : ((w.alloc (.cells #[.bool s, v, .int .i64 x] 34)).alloc (.cells #[.bool false, .slice none 0 0, .int .i64 0] 34)).cell? ⟨w.heap.size + 1, 2, none⟩ = some (.int .i64 0) := new_cell2 _ _ _ _ _ _ (by simp) rfl
  have qf2 : ((w.alloc (.cells #[.bool s, v, .int .i64 x] 34)).alloc (.cells #[.bool false, .slice none 0 0, .int .i64 0] 34)).frozen? ⟨w.heap.size + 1, 2, none⟩ = false := new_loose2 _ _ _ _ _ (by simp)
  replace r := r.kept k0 (by omega)
  have s0 : ((w.alloc (.cells #[.bool s, v, .int .i64 x] 34)).alloc (.cells #[.bool false, .slice none 0 0, .int .i64 0] 34)).heap.size = w.heap.size + 2 := by simp
  obtain ⟨a, c, hv⟩ := r.form'
  subst hv
  have K := hide (k0)
  clear k0
  have S0 := hide s0
  clear s0
  go_enter Tryd.func15, Tryd.ntmps15
  have hb0 : ((zs.length : Int) == 0) = true := beq_iff_eq.2 (by omega)
  clear r K
  go_wp2_with fail
  exact bodyPost_ret (v := .agg #[.bool false, .slice none 0 0, .int .i64 0]) (by simp [results, Tryd.results15, go_sem, q0, q1, q2]) rfl ⟨rfl, ((Kept.refl 0 0 w).alloc _).alloc _⟩

theorem l4sqrt_any {bw : Bool} {lo hi : Nat} {v : Value} {zs : List Int} (s : Bool) (x low : Int) (hl0 : -10000 ≤ low) (hl1 : low ≤ 10000) (hk1 : x - 2 * (low - 1) ≤ 9500) (w : World) (r : Row .i64 bw lo hi w v zs) (o1 : dokB s zs x = true) :
    Calls Tryd.prog 15 #[.agg #[.bool s, v, .int .i64 x], .int .i64 low] w fun e w' => ∃ v' S ys E, e = .returned (.agg #[.bool S, v', .int .i64 E]) ∧ Row .i64 true w.heap.size w'.heap.size w' v' ys ∧ RtAns S ys E low (val zs).toNat (x - 2 * (low - 1)) ∧ Kept 0 0 w w' := by
  obtain ⟨w1', e1, e2, -, -⟩ := dok_parts o1
  obtain ⟨-, -, lx, hx⟩ := wok_int w1'
  by_cases hzn : zs.length = 0
  · refine (l4sqrt_nil s x low hl0 hl1 hk1 w r o1 hzn).mono ?_
    rintro e w' ⟨rfl, k⟩
    have hx0 : (val zs).toNat = 0 := by rw [List.length_eq_zero_iff.1 hzn]; rfl
    rw [hx0]
    exact ⟨_, _, _, _, rfl, Row.nil _ _ _ _ _, rtAns_zero _ _, k⟩
  · have hv0 : (val zs).toNat ≠ 0 := fun e => hzn (by have h := nrm_limbs hx; rw [e, limbs_zero] at h; rw [h]; rfl)
    refine (l4sqrt_spec s x low hl0 hl1 hk1 w r o1 hzn).mono ?_
    rintro e w' ⟨v', rfl, r', k⟩
    exact ⟨v', _, _, _, rfl, r', rtAns_pos hx.1 lx hv0 _ low hk1 hl0 hl1, k⟩

set_option maxHeartbeats 4000000 in
theorem droot_spec {bw : Bool} {lo hi : Nat} {v : Value} {zs : List Int} (s : Bool) (x : Int) (hx1 : x ≤ 9223372036854775807) (hx0 : -9223372036854775808 ≤ x) (low mode : Int) (w : World) (r : Row .i64 bw lo hi w v zs) :
    Calls Tryd.prog 5 #[.agg #[.bool s, v, .int .i64 x], .int .i64 low, .int .i64 mode] w fun e w' => ∃ v', e = .returned (.tuple #[.agg #[.bool (ansDS ((dokB s zs x && !s) && mayR low mode) (rtM mode.toNat (val zs).toNat (x - 2 * (low - 1))) (low)), v', .int .i64 (ansDE ((dokB s zs x && !s) && mayR low mode) (rtM mode.toNat (val zs).toNat (x - 2 * (low - 1))) (low))], .bool (ansDB ((dokB s zs x && !s) && mayR low mode) (rtM mode.toNat (val zs).toNat (x - 2 * (low - 1))) (low))]) ∧ Row .i64 true w.heap.size w'.heap.size w' v' (ansDL ((dokB s zs x && !s) && mayR low mode) (rtM mode.toNat (val zs).toNat (x - 2 * (low - 1))) (low)) ∧ Kept 0 0 w w' := by
  obtain ⟨GS, hGS⟩ : ∃ y, ansDS ((dokB s zs x && !s) && mayR low mode) (rtM mode.toNat (val zs).toNat (x - 2 * (low - 1))) (low) = y := ⟨_, rfl⟩
  obtain ⟨GL, hGL⟩ : ∃ y, ansDL ((dokB s zs x && !s) && mayR low mode) (rtM mode.toNat (val zs).toNat (x - 2 * (low - 1))) (low) = y := ⟨_, rfl⟩
  obtain ⟨GE, hGE⟩ : ∃ y, ansDE ((dokB s zs x && !s) && mayR low mode) (rtM mode.toNat (val zs).toNat (x - 2 * (low - 1))) (low) = y := ⟨_, rfl⟩
  obtain ⟨GB, hGB⟩ : ∃ y, ansDB ((dokB s zs x && !s) && mayR low mode) (rtM mode.toNat (val zs).toNat (x - 2 * (low - 1))) (low) = y := ⟨_, rfl⟩
  try rw [hGS]
  try rw [hGL]
  try rw [hGE]
  try rw [hGB]
  have HGS := hide hGS
  have HGL := hide hGL
  have HGE := hide hGE
  have HGB := hide hGB
  clear hGS hGL hGE hGB
  have k0 : Kept 0 0 w ((w.alloc (.cells #[.bool s, v, .int .i64 x] 34)).alloc (.cells #[.bool false, .slice none 0 0, .int .i64 0] 34)) := (((Kept.refl 0 0 w).alloc (.cells #[.bool s, v, .int .i64 x] 34)).alloc (.cells #[.bool false, .slice none 0 0, .int .i64 0] 34))
  have p0 : ((w.alloc (.cells #[.bool s, v, .int .i64 x] 34)).alloc (.cells #[.bool false, .slice none 0 0, .int .i64 0] 34)).cell? ⟨w.heap.size, 0, none⟩ = some (.bool s) := old_cell _ (new_cell2 _ _ _ _ _ _ (by simp) rfl)
  have p1 : ((w.alloc (.cells #[.bool s, v, .int .i64 x] 34)).alloc (.cells #[.bool false, .slice none 0 0, .int .i64 0] 34)).cell? ⟨w.heap.size, 1, none⟩ = some (v) := old_cell _ (new_cell2 _ _ _ _ _ _ (by simp) rfl)
  have p2 : ((w.alloc (.cells #[.bool s, v, .int .i64 x] 34)).alloc (.cells #[.bool false, .slice none 0 0, .int .i64 0] 34)).cell? ⟨w.heap.size, 2, none⟩ = some (.int .i64 x) := old_cell _ (new_cell2 _ _ _ _ _ _ (by simp) rfl)
  have q0 : ((w.alloc (.cells #[.bool s, v, .int .i64 x] 34)).alloc (.cells #[.bool false, .slice none 0 0, .int .i64 0] 34)).cell? ⟨w.heap.size + 1, 0, none⟩ = some (.bool false) := new_cell2 _ _ _ _ _ _ (by simp) rfl
  have qf0 : ((w.alloc (.cells #[.bool s, v, .int .i64 x] 34)).alloc (.cells #[.bool false, .slice none 0 0, .int .i64 0] 34)).frozen? ⟨w.heap.size + 1, 0, none⟩ = false := new_loose2 _ _ _ _ _ (by simp)
  have q1 : ((w.alloc (.cells #[.bool s, v, .int .i64 x] 34)).alloc (.cells #[.bool false, .slice none 0 0, .int .i64 0] 34)).cell? ⟨w.heap.size + 1, 1, none⟩ = some (.slice none 0 0) := new_cell2 _ _ _ _ _ _ (by simp) rfl
  have qf1 : ((w.alloc (.cells #[.bool s, v, .int .i64 x] 34)).alloc (.cells #[.bool false, .slice none 0 0, .int .i64 0] 34)).frozen? ⟨w.heap.size + 1, 1, none⟩ = false := new_loose2 _ _ _ _ _ (by simp)
  have q2 : ((w.alloc (.cells #[.bool s, v, .int .i64 x] 34)).alloc (.cells #[.bool false, .slice none 0 0, .int .i64 0] 34)).cell? ⟨w.heap.size + 1, 2, none⟩ = some (.int .i64 0) := new_cell2 _ _ _ _ _ _ (by simp) rfl
  have qf2 : ((w.alloc (.cells #[.bool s, v, .int .i64 x] 34)).alloc (.cells #[.bool false, .slice none 0 0, .int .i64 0] 34)).frozen? ⟨w.heap.size + 1, 2, none⟩ = false := new_loose2 _ _ _ _ _ (by simp)
  replace r := r.kept k0 (by omega)
  have s0 : ((w.alloc (.cells #[.bool s, v, .int .i64 x] 34)).alloc (.cells #[.bool false, .slice none 0 0, .int .i64 0] 34)).heap.size = w.heap.size + 2 := by simp
  obtain ⟨a, c, hv⟩ := r.form'
  subst hv
  have K := hide (k0)
  clear k0
  have S0 := hide s0
  clear s0
  go_enter Tryd.func5, Tryd.ntmps5
  go_wp2_with fail
  generalize ((w.alloc (.cells #[.bool s, .slice a zs.length c, .int .i64 x] 34)).alloc (.cells #[.bool false, .slice none 0 0, .int .i64 0] 34)) = W at *
  refine (dok_spec s x hx1 hx0 _ r).mono ?_
  rintro e w1 ⟨rfl, k1⟩
  replace r := r.kept k1 (.inr (.inr (Nat.le_refl 0)))
  replace qf0 := k1.loose0 (World.block_lt_of_cell? _ _ q0) qf0
  replace qf1 := k1.loose0 (World.block_lt_of_cell? _ _ q1) qf1
  replace qf2 := k1.loose0 (World.block_lt_of_cell? _ _ q2) qf2
  replace p0 := k1.cell0 p0
  replace p1 := k1.cell0 p1
  replace p2 := k1.cell0 p2
  replace q0 := k1.cell0 q0
  replace q1 := k1.cell0 q1
  replace q2 := k1.cell0 q2
  replace K := hide ((unhide K).trans k1)
  have z2 := k1.size
  clear k1
  cases ho : dokB s zs x
  · have HB0 : Hid (((dokB s zs x && !s) && mayR low mode) = false) := by show _ = _; rw [ho]; rfl
    have HF : Hid (GS = false ∧ GL = [] ∧ GE = 0 ∧ GB = false) := by
      have hno : GB = false := by rw [← unhide HGB]; exact ansDB_no (unhide HB0)
      have hno' := hno
      rw [← unhide HGB] at hno'
      obtain ⟨b1, b2, b3⟩ := ansD_no hno'
      exact ⟨by rw [← unhide HGS, b1], by rw [← unhide HGL, b2], by rw [← unhide HGE, b3], hno⟩
    have KF := hide ((((unhide K).setNew (p := ⟨w.heap.size + 1, 0, none⟩) (by simp) (.bool false)).setNew (p := ⟨w.heap.size + 1, 1, none⟩) (by simp) (.slice none 0 0)).setNew (p := ⟨w.heap.size + 1, 2, none⟩) (by simp) (.int .i64 0))
    clear r K
    go_wp2_with fail
    exact bodyPost_ret (v := .tuple #[.agg #[.bool false, .slice none 0 0, .int .i64 0], .bool false]) (by simp [results, Tryd.results5, go_sem, q0, q1, q2]) rfl ⟨_, by rw [(unhide HF).1, (unhide HF).2.2.1, (unhide HF).2.2.2], by rw [(unhide HF).2.1]; exact Row.nil _ _ _ _ _, unhide KF⟩
  have HO := hide ho
  clear ho
  cases s
  rotate_left
  · have HB0 : Hid (((dokB true zs x && !true) && mayR low mode) = false) := by show _ = _; simp
    have HF : Hid (GS = false ∧ GL = [] ∧ GE = 0 ∧ GB = false) := by
      have hno : GB = false := by rw [← unhide HGB]; exact ansDB_no (unhide HB0)
      have hno' := hno
      rw [← unhide HGB] at hno'
      obtain ⟨b1, b2, b3⟩ := ansD_no hno'
      exact ⟨by rw [← unhide HGS, b1], by rw [← unhide HGL, b2], by rw [← unhide HGE, b3], hno⟩
    have KF := hide ((((unhide K).setNew (p := ⟨w.heap.size + 1, 0, none⟩) (by simp) (.bool false)).setNew (p := ⟨w.heap.size + 1, 1, none⟩) (by simp) (.slice none 0 0)).setNew (p := ⟨w.heap.size + 1, 2, none⟩) (by simp) (.int .i64 0))
    clear r K
    go_wp2_with fail
    exact bodyPost_ret (v := .tuple #[.agg #[.bool false, .slice none 0 0, .int .i64 0], .bool false]) (by simp [results, Tryd.results5, go_sem, q0, q1, q2]) rfl ⟨_, by rw [(unhide HF).1, (unhide HF).2.2.1, (unhide HF).2.2.2], by rw [(unhide HF).2.1]; exact Row.nil _ _ _ _ _, unhide KF⟩
  by_cases hl1 : low < -3000
  · have HB0 : Hid (((dokB false zs x && !false) && mayR low mode) = false) := by show _ = _; unfold mayR; rw [decide_eq_false (show ¬ -3000 ≤ low by omega)]; simp
    have HF : Hid (GS = false ∧ GL = [] ∧ GE = 0 ∧ GB = false) := by
      have hno : GB = false := by rw [← unhide HGB]; exact ansDB_no (unhide HB0)
      have hno' := hno
      rw [← unhide HGB] at hno'
      obtain ⟨b1, b2, b3⟩ := ansD_no hno'
      exact ⟨by rw [← unhide HGS, b1], by rw [← unhide HGL, b2], by rw [← unhide HGE, b3], hno⟩
    have KF := hide ((((unhide K).setNew (p := ⟨w.heap.size + 1, 0, none⟩) (by simp) (.bool false)).setNew (p := ⟨w.heap.size + 1, 1, none⟩) (by simp) (.slice none 0 0)).setNew (p := ⟨w.heap.size + 1, 2, none⟩) (by simp) (.int .i64 0))
    clear r K
    go_wp2_with fail
    exact bodyPost_ret (v := .tuple #[.agg #[.bool false, .slice none 0 0, .int .i64 0], .bool false]) (by simp [results, Tryd.results5, go_sem, q0, q1, q2]) rfl ⟨_, by rw [(unhide HF).1, (unhide HF).2.2.1, (unhide HF).2.2.2], by rw [(unhide HF).2.1]; exact Row.nil _ _ _ _ _, unhide KF⟩
  by_cases hl2 : 3000 < low
  · have HB0 : Hid (((dokB false zs x && !false) && mayR low mode) = false) := by show _ = _; unfold mayR; rw [decide_eq_false (show ¬ low ≤ 3000 by omega)]; simp
    have HF : Hid (GS = false ∧ GL = [] ∧ GE = 0 ∧ GB = false) := by
      have hno : GB = false := by rw [← unhide HGB]; exact ansDB_no (unhide HB0)
      have hno' := hno
      rw [← unhide HGB] at hno'
      obtain ⟨b1, b2, b3⟩ := ansD_no hno'
      exact ⟨by rw [← unhide HGS, b1], by rw [← unhide HGL, b2], by rw [← unhide HGE, b3], hno⟩
    have KF := hide ((((unhide K).setNew (p := ⟨w.heap.size + 1, 0, none⟩) (by simp) (.bool false)).setNew (p := ⟨w.heap.size + 1, 1, none⟩) (by simp) (.slice none 0 0)).setNew (p := ⟨w.heap.size + 1, 2, none⟩) (by simp) (.int .i64 0))
    clear r K
    go_wp2_with fail
    exact bodyPost_ret (v := .tuple #[.agg #[.bool false, .slice none 0 0, .int .i64 0], .bool false]) (by simp [results, Tryd.results5, go_sem, q0, q1, q2]) rfl ⟨_, by rw [(unhide HF).1, (unhide HF).2.2.1, (unhide HF).2.2.2], by rw [(unhide HF).2.1]; exact Row.nil _ _ _ _ _, unhide KF⟩
  go_wp2_with fail
  refine (mode_spec mode _).mono ?_
  rintro e wm5 ⟨rfl, rfl⟩
  cases hm : modeB mode
  · have HB0 : Hid (((dokB false zs x && !false) && mayR low mode) = false) := by show _ = _; unfold mayR; rw [hm]; simp
    have HF : Hid (GS = false ∧ GL = [] ∧ GE = 0 ∧ GB = false) := by
      have hno : GB = false := by rw [← unhide HGB]; exact ansDB_no (unhide HB0)
      have hno' := hno
      rw [← unhide HGB] at hno'
      obtain ⟨b1, b2, b3⟩ := ansD_no hno'
      exact ⟨by rw [← unhide HGS, b1], by rw [← unhide HGL, b2], by rw [← unhide HGE, b3], hno⟩
    have KF := hide ((((unhide K).setNew (p := ⟨w.heap.size + 1, 0, none⟩) (by simp) (.bool false)).setNew (p := ⟨w.heap.size + 1, 1, none⟩) (by simp) (.slice none 0 0)).setNew (p := ⟨w.heap.size + 1, 2, none⟩) (by simp) (.int .i64 0))
    clear r K
    go_wp2_with fail
    exact bodyPost_ret (v := .tuple #[.agg #[.bool false, .slice none 0 0, .int .i64 0], .bool false]) (by simp [results, Tryd.results5, go_sem, q0, q1, q2]) rfl ⟨_, by rw [(unhide HF).1, (unhide HF).2.2.1, (unhide HF).2.2.2], by rw [(unhide HF).2.1]; exact Row.nil _ _ _ _ _, unhide KF⟩
  have HC : Hid (((dokB false zs x && !false) && mayR low mode) = true) := by show _ = _; rw [unhide HO]; unfold mayR; rw [hm, decide_eq_true (show -3000 ≤ low by omega), decide_eq_true (show low ≤ 3000 by omega)]; rfl
  have hmm : 0 ≤ mode ∧ mode ≤ 4 := by unfold modeB at hm; simp at hm; exact hm
  obtain ⟨w1', e1, e2, -, -⟩ := dok_parts (unhide HO)
  obtain ⟨-, -, lx, hx⟩ := wok_int w1'
  clear w1'
  have rg := dex_range (rtM mode.toNat (val zs).toNat (x - 2 * (low - 1))) low (by omega) (by omega) (rtM_lt hx.1 lx mode.toNat (x - 2 * (low - 1)) (by omega)) (by omega)
  obtain ⟨y1, y2, y3, y4⟩ := fits_ans (unhide HC) (rtM mode.toNat (val zs).toNat (x - 2 * (low - 1))) low
  rw [unhide HGS] at y1
  rw [unhide HGE] at y2
  rw [unhide HGB] at y3
  rw [unhide HGL] at y4
  obtain ⟨M, hM⟩ : ∃ y, rtM mode.toNat (val zs).toNat (x - 2 * (low - 1)) = y := ⟨_, rfl⟩
  rw [hM] at rg y1 y2 y3 y4
  have HM := hide hM
  clear hM HGS HGL HGE HGB HC
  obtain ⟨sM, hsM⟩ : ∃ y, wsg M = y := ⟨_, rfl⟩
  obtain ⟨zM, hzM⟩ : ∃ y, dlm M = y := ⟨_, rfl⟩
  obtain ⟨eM, heM⟩ : ∃ y, dex M low = y := ⟨_, rfl⟩
  simp only [hsM, hzM, heM] at y1 y2 y3 y4 rg
  have HsM := hide hsM
  have HzM := hide hzM
  have HeM := hide heM
  clear hsM hzM heM
  go_wp2_with fail
  refine (l4sqrt_any false x low (by omega) (by omega) (by omega) _ r (unhide HO)).mono ?_
  rintro e w3 ⟨v3, S3, z3, E3, rfl, r3, qa, k3⟩
  replace r := r.kept k3 (.inr (.inr (Nat.le_refl 0)))
  replace qf0 := k3.loose0 (World.block_lt_of_cell? _ _ q0) qf0
  replace qf1 := k3.loose0 (World.block_lt_of_cell? _ _ q1) qf1
  replace qf2 := k3.loose0 (World.block_lt_of_cell? _ _ q2) qf2
  replace p0 := k3.cell0 p0
  replace p1 := k3.cell0 p1
  replace p2 := k3.cell0 p2
  replace q0 := k3.cell0 q0
  replace q1 := k3.cell0 q1
  replace q2 := k3.cell0 q2
  replace K := hide ((unhide K).trans k3)
  have z4 := k3.size
  clear k3
  clear r
  obtain ⟨a3, c3, hv⟩ := Row.form' r3
  subst hv
  have mr := round4_two S3 E3 low qa.lo qa.hi (by omega) (by omega) w3 r3 qa.wn qa.odd qa.nil qa.len mode hmm.1 hmm.2
  rw [qa.rnd mode.toNat, unhide HM, unhide HsM, unhide HzM, unhide HeM] at mr
  obtain ⟨X3, hX3⟩ : ∃ y, rndX (scN (val z3).toNat (E3 - (low - 1))) (scL (val z3).toNat (E3 - (low - 1))) = y := ⟨_, rfl⟩
  rw [hX3] at mr
  clear hX3 qa HM HsM HzM HeM
  go_wp2_with fail
  refine (mr).mono ?_
  rintro e w5 ⟨v6, rfl, r6, k5⟩
  replace r3 := r3.kept k5 (.inr (.inr (Nat.le_refl 0)))
  replace qf0 := k5.loose0 (World.block_lt_of_cell? _ _ q0) qf0
  replace qf1 := k5.loose0 (World.block_lt_of_cell? _ _ q1) qf1
  replace qf2 := k5.loose0 (World.block_lt_of_cell? _ _ q2) qf2
  replace p0 := k5.cell0 p0
  replace p1 := k5.cell0 p1
  replace p2 := k5.cell0 p2
  replace q0 := k5.cell0 q0
  replace q1 := k5.cell0 q1
  replace q2 := k5.cell0 q2
  replace K := hide ((unhide K).trans k5)
  have z6 := k5.size
  clear k5
  clear mr
  replace r6 : Row .i64 true (w.heap.size + 2) w5.heap.size w5 v6 zM := by
    have := unhide S0
    rcases r6 with r6 | r6
    · exact r6.tight.wider (by omega) (Nat.le_refl _)
    · exact r6.wider (by omega) (Nat.le_refl _)
  clear r3
  obtain ⟨a6, c6, hv⟩ := Row.form' r6
  subst hv
  have kn := (Kept.refl 0 0 w5).alloc (.cells #[.bool sM, .slice a6 zM.length c6, .int .i64 eM] 34)
  have t0 : (w5.alloc (.cells #[.bool sM, .slice a6 zM.length c6, .int .i64 eM] 34)).cell? ⟨w5.heap.size, 0, none⟩ = some (.bool sM) := new_cell2 _ _ _ _ _ _ (by simp) rfl
  have t1 : (w5.alloc (.cells #[.bool sM, .slice a6 zM.length c6, .int .i64 eM] 34)).cell? ⟨w5.heap.size, 1, none⟩ = some (.slice a6 zM.length c6) := new_cell2 _ _ _ _ _ _ (by simp) rfl
  have t2 : (w5.alloc (.cells #[.bool sM, .slice a6 zM.length c6, .int .i64 eM] 34)).cell? ⟨w5.heap.size, 2, none⟩ = some (.int .i64 eM) := new_cell2 _ _ _ _ _ _ (by simp) rfl
  have sz7 : w5.heap.size + 1 ≤ (w5.alloc (.cells #[.bool sM, .slice a6 zM.length c6, .int .i64 eM] 34)).heap.size := by simp
  replace r6 := r6.kept kn (.inr (.inr (Nat.le_refl 0)))
  replace qf0 := kn.loose0 (World.block_lt_of_cell? _ _ q0) qf0
  replace qf1 := kn.loose0 (World.block_lt_of_cell? _ _ q1) qf1
  replace qf2 := kn.loose0 (World.block_lt_of_cell? _ _ q2) qf2
  replace p0 := kn.cell0 p0
  replace p1 := kn.cell0 p1
  replace p2 := kn.cell0 p2
  replace q0 := kn.cell0 q0
  replace q1 := kn.cell0 q1
  replace q2 := kn.cell0 q2
  replace K := hide ((unhide K).trans kn)
  have z8 := kn.size
  clear kn
  go_wp2_with fail
  generalize (w5.alloc (.cells #[.bool sM, .slice a6 zM.length c6, .int .i64 eM] 34)) = wn9 at *
  have mk := fits4_spec sM eM rg.1 rg.2 wn9 r6
  rw [y4, y1, y2, y3] at mk
  clear y1 y2 y3 y4 rg
  refine (mk).mono ?_
  rintro e w10 ⟨v8, rfl, r8, k10⟩
  replace r6 := r6.kept k10 (.inr (.inr (Nat.le_refl 0)))
  replace qf0 := k10.loose0 (World.block_lt_of_cell? _ _ q0) qf0
  replace qf1 := k10.loose0 (World.block_lt_of_cell? _ _ q1) qf1
  replace qf2 := k10.loose0 (World.block_lt_of_cell? _ _ q2) qf2
  replace p0 := k10.cell0 p0
  replace p1 := k10.cell0 p1
  replace p2 := k10.cell0 p2
  replace q0 := k10.cell0 q0
  replace q1 := k10.cell0 q1
  replace q2 := k10.cell0 q2
  replace t0 := k10.cell0 t0
  replace t1 := k10.cell0 t1
  replace t2 := k10.cell0 t2
  replace K := hide ((unhide K).trans k10)
  have z11 := k10.size
  clear k10
  clear mk
  obtain ⟨a8, c8, hv⟩ := Row.form' r8
  subst hv
  clear r6
  have R := hide ((((r8.set_other (p := ⟨w.heap.size + 1, 0, none⟩) (.inl (by have := unhide S0; dsimp only; omega)) (.bool GS)).set_other (p := ⟨w.heap.size + 1, 1, none⟩) (.inl (by have := unhide S0; dsimp only; omega)) (.slice a8 GL.length c8)).set_other (p := ⟨w.heap.size + 1, 2, none⟩) (.inl (by have := unhide S0; dsimp only; omega)) (.int .i64 GE)).tight.wider (lo' := w.heap.size) (by have := unhide S0; omega) (Nat.le_refl _))
  have K7 := hide ((((unhide K).setNew (p := ⟨w.heap.size + 1, 0, none⟩) (by simp) (.bool GS)).setNew (p := ⟨w.heap.size + 1, 1, none⟩) (by simp) (.slice a8 GL.length c8)).setNew (p := ⟨w.heap.size + 1, 2, none⟩) (by simp) (.int .i64 GE))
  clear r8 K 
  go_wp2_with fail
  exact bodyPost_ret (v := .tuple #[.agg #[.bool GS, .slice a8 GL.length c8, .int .i64 GE], .bool GB]) (by simp [results, Tryd.results5, go_sem, q0, q1, q2]) rfl ⟨_, rfl, unhide R, unhide K7⟩

end Go.Proofs.YtocmecjadhodfaaDoor
