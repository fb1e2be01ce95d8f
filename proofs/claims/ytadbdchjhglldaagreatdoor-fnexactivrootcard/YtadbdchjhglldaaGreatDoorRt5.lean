/-
  Roots of dyadic numbers: the model's l4sqrt.
-/
import Derived.Test.YtadbdchjhglldaaGreatDoorRt0
import Derived.Test.YtadbdchjhglldaaGreatDoorBM
import Derived.Test.YtadbdchjhglldaaGreatDoorDy6
import Derived.Test.YtadbdchjhglldaaGreatDoorBS
import Derived.Test.YtadbdchjhglldaaGreatDoorDyD2
import Derived.Deep.DeepCutAuto
import Derived.Deep.RegionHeld3
namespace Go.Proofs.YtadbdchjhglldaaGreatDoor
open Go.RowKit
set_option linter.unusedVariables false
set_option maxRecDepth 8000
set_option linter.unusedSimpArgs false

theorem in_l2mul_q : ∀ (w : World) (args : Array Value), (callFunc 56 args).run Tryz.prog w = .ok (.enter 56 args) w := enters Tryz.func56 (by decide) (fun h => by cases h)

theorem in_l2cmp_q : ∀ (w : World) (args : Array Value), (callFunc 55 args).run Tryz.prog w = .ok (.enter 55 args) w := enters Tryz.func55 (by decide) (fun h => by cases h)

theorem odd_lost {V K : Nat} (hV : V % 2 = 1) (hK : 0 < K) : V % 2 ^ K ≠ 0 := by
  intro e
  obtain ⟨J, rfl⟩ : ∃ J, K = J + 1 := ⟨K - 1, by omega⟩
  have h := Nat.dvd_of_mod_eq_zero e
  have h2 : 2 ∣ 2 ^ (J + 1) := ⟨2 ^ J, by rw [Nat.pow_succ, Nat.mul_comm]⟩
  have := Nat.mod_eq_zero_of_dvd (Nat.dvd_trans h2 h)
  omega

theorem shl_len_le' (n A : Nat) {j : Nat} (h : (limbs n).length ≤ j) (hA : A ≤ 16 := by omega) : (limbs (n * 2 ^ A)).length ≤ j + 1 := by
  have e := (limbs_len_two _ _).1 h
  refine (limbs_len_two _ _).2 ?_
  rw [Nat.mul_add, Nat.pow_add]
  exact Nat.lt_of_lt_of_le (Nat.mul_lt_mul_of_pos_right e (Nat.pow_pos (by decide))) (Nat.mul_le_mul_left _ (Nat.pow_le_pow_right (by decide) (by omega)))

set_option maxHeartbeats 8000000 in
theorem l4sqrt_spec {bw : Bool} {lo hi : Nat} {v : Value} {zs : List Int} (s : Bool) (x low : Int) (hl0 : -10000 ≤ low) (hl1 : low ≤ 10000) (hk1 : x - 2 * (low - 1) ≤ 9500) (w : World) (r : Row .i64 bw lo hi w v zs) (o1 : dokB s zs x = true) (hzn : zs.length ≠ 0) :
    Calls Tryz.prog 30 #[.agg #[.bool s, v, .int .i64 x], .int .i64 low] w fun e w' => ∃ v', e = .returned (.agg #[.bool (wsg (wval false (limbs (rtQ (val zs).toNat (x - 2 * (low - 1) + 2))))), v', .int .i64 (dex (wval false (limbs (rtQ (val zs).toNat (x - 2 * (low - 1) + 2)))) (low - 3))]) ∧ Row .i64 true w.heap.size w'.heap.size w' v' (dlm (wval false (limbs (rtQ (val zs).toNat (x - 2 * (low - 1) + 2))))) ∧ Kept 0 0 w w' := by
  replace r := r.tight
  obtain ⟨w1', e1, e2, -, h5⟩ := dok_parts o1
  obtain ⟨-, -, lx, hx⟩ := wok_int w1'
  clear w1'
  have hx0 := val_nonneg hx.1
  have hv0 : (val zs).toNat ≠ 0 := fun e => hzn (by have h := nrm_limbs hx; rw [e, limbs_zero] at h; rw [h]; rfl)
  have hodd : (val zs).toNat % 2 = 1 := by have := h5 (fun e => hzn (by rw [e]; rfl)); omega
  clear h5
  obtain ⟨KK, hKK⟩ : ∃ y, x - 2 * (low - 2) = y := ⟨_, rfl⟩
  have hK1 : x - 2 * (low - 1) + 2 = KK := by omega
  rw [hK1]
  obtain ⟨NV, hNV⟩ : ∃ y, scN (val zs).toNat KK = y := ⟨_, rfl⟩
  have lN : (limbs NV).length ≤ 700 := by rw [← hNV]; have := scN_len hx.1 KK 600 (by omega); omega
  obtain ⟨QN, hQN⟩ : ∃ y, rootN NV = y := ⟨_, rfl⟩
  have hQle : QN * QN ≤ NV := by rw [← hQN]; exact (root_sq NV).1
  have lQ : (limbs QN).length ≤ 700 := by have := limbs_len_le (rootN_le NV); rw [hQN] at this; omega
  obtain ⟨QQ, hQQ⟩ : ∃ y, rtQ (val zs).toNat KK = y := ⟨_, rfl⟩
  have eQQ : QQ = 2 * QN + (if (scL (val zs).toNat KK || decide (QN * QN ≠ NV)) = true then 1 else 0) := by rw [← hQQ]; unfold rtQ rtL rtN; rw [hNV, hQN]
  have pQ : QQ ≠ 0 := by rw [← hQQ]; exact rt_pos _ hv0 _
  rw [hQQ]
  obtain ⟨MQ, hMQ⟩ : ∃ y, wval false (limbs QQ) = y := ⟨_, rfl⟩
  rw [hMQ]
  obtain ⟨GS, hGS⟩ : ∃ y, wsg MQ = y := ⟨_, rfl⟩
  obtain ⟨GL, hGL⟩ : ∃ y, dlm MQ = y := ⟨_, rfl⟩
  obtain ⟨GE, hGE⟩ : ∃ y, dex MQ (low - 3) = y := ⟨_, rfl⟩
  rw [hGS, hGL, hGE]
  have HGS := hide hGS
  clear hGS
  have HGL := hide hGL
  clear hGL
  have HGE := hide hGE
  clear hGE
  have HNV := hide hNV
  clear hNV
  have HQN := hide hQN
  clear hQN
  have HQQ := hide hQQ
  clear hQQ
  have HMQ := hide hMQ
  clear hMQ
  have EQQ := hide eQQ
  clear eQQ hK1
  have hb0 : ((zs.length : Int) == 0) = false := beq_eq_false_iff_ne.2 (by omega)
  have hw1 : IntKind.i64.wrap (low - 2) = low - 2 := w64 _ (by omega) (by omega)
  have hw2 : IntKind.i64.wrap (2 * (low - 2)) = 2 * (low - 2) := w64 _ (by omega) (by omega)
  have hw3 : IntKind.i64.wrap (x - 2 * (low - 2)) = KK := by rw [w64 _ (by omega) (by omega)]; exact hKK
  have hw4 : IntKind.i64.wrap (low - 2 - 1) = low - 3 := by rw [w64 _ (by omega) (by omega)]; omega
  have hw5 : IntKind.i64.wrap (-KK) = -KK := w64 _ (by omega) (by omega)
  have hKb : -40000 ≤ KK ∧ KK ≤ 9600 := by omega
  clear hKK
  have l22 : ∀ n : Nat, (limbs n).length ≤ 700 → (limbs (n * 2)).length ≤ 701 := fun n h => by
   have := shl_len_le' n 1 h
   simpa using this
  have lQ2 := l22 QN lQ
  have lQQ : (limbs QQ).length ≤ 702 := by
   have h1 : QQ ≤ QN * 2 + 1 := by rw [unhide EQQ]; split <;> omega
   have h2 := limbs_len_le h1
   have h3 := limbs_succ_len (limbs (QN * 2)) (limbs_nrm _)
   rw [limbs_val, Int.toNat_natCast] at h3
   omega
  clear l22
  obtain ⟨Wn, hn0⟩ : ∃ wz, wz = ((w.alloc (.cells #[.bool s, v, .int .i64 x] 36)).alloc (.cells #[.bool false, .slice none 0 0, .int .i64 0] 36)) := ⟨_, rfl⟩
  have k0 : Kept 0 0 w Wn := by rw [hn0]; exact (((Kept.refl 0 0 w).alloc _).alloc _)
  have p0 : Wn.cell? ⟨w.heap.size, 0, none⟩ = some (.bool s) := by rw [hn0]; exact old_cell _ (new_cell2 _ _ _ _ _ _ (by simp) rfl)
  have p1 : Wn.cell? ⟨w.heap.size, 1, none⟩ = some (v) := by rw [hn0]; exact old_cell _ (new_cell2 _ _ _ _ _ _ (by simp) rfl)
  have p2 : Wn.cell? ⟨w.heap.size, 2, none⟩ = some (.int .i64 x) := by rw [hn0]; exact old_cell _ (new_cell2 _ _ _ _ _ _ (by simp) rfl)
  have q0 : Wn.cell? ⟨w.heap.size + 1, 0, none⟩ = some (.bool false) := by rw [hn0]; exact new_cell2 _ _ _ _ _ _ (by simp) rfl
  have qf0 : Wn.frozen? ⟨w.heap.size + 1, 0, none⟩ = false := by rw [hn0]; exact new_loose2 _ _ _ _ _ (by simp)
  have q1 : Wn.cell? ⟨w.heap.size + 1, 1, none⟩ = some (.slice none 0 0) := by rw [hn0]; exact new_cell2 _ _ _ _ _ _ (by simp) rfl
  have qf1 : Wn.frozen? ⟨w.heap.size + 1, 1, none⟩ = false := by rw [hn0]; exact new_loose2 _ _ _ _ _ (by simp)
  have q2 : Wn.cell? ⟨w.heap.size + 1, 2, none⟩ = some (.int .i64 0) := by rw [hn0]; exact new_cell2 _ _ _ _ _ _ (by simp) rfl
  have qf2 : Wn.frozen? ⟨w.heap.size + 1, 2, none⟩ = false := by rw [hn0]; exact new_loose2 _ _ _ _ _ (by simp)
  subst hn0
  replace r := r.kept k0 (by omega)
  have s0 : ((w.alloc (.cells #[.bool s, v, .int .i64 x] 36)).alloc (.cells #[.bool false, .slice none 0 0, .int .i64 0] 36)).heap.size = w.heap.size + 2 := by simp
  obtain ⟨a, c, hv⟩ := r.form'
  subst hv
  have K := hide (k0)
  clear k0
  have S0 := hide s0
  clear s0
  go_enter Tryz.func30, Tryz.ntmps30
  go_upto_region 5 with fail
  generalize ((w.alloc (.cells #[.bool s, .slice a zs.length c, .int .i64 x] 36)).alloc (.cells #[.bool false, .slice none 0 0, .int .i64 0] 36)) = W at *
  have oN := p1
  have kn := (Kept.refl 0 0 W).alloc (.cells #[.slice a zs.length c] 32)
  have N0 : (W.alloc (.cells #[.slice a zs.length c] 32)).cell? ⟨W.heap.size, 0, none⟩ = some (.slice a zs.length c) := new_cell2 _ _ _ _ _ _ rfl rfl
  have Nf0 : (W.alloc (.cells #[.slice a zs.length c] 32)).frozen? ⟨W.heap.size, 0, none⟩ = false := new_loose2 _ _ _ _ _ rfl
  have szN : W.heap.size + 1 = (W.alloc (.cells #[.slice a zs.length c] 32)).heap.size := by simp
  replace r := r.kp kn
  replace qf0 := kn.loose0 (zbl q0) qf0
  replace qf1 := kn.loose0 (zbl q1) qf1
  replace qf2 := kn.loose0 (zbl q2) qf2
  replace p0 := kn.cell0 p0
  replace p1 := kn.cell0 p1
  replace p2 := kn.cell0 p2
  replace q0 := kn.cell0 q0
  replace q1 := kn.cell0 q1
  replace q2 := kn.cell0 q2
  replace K := hide ((unhide K).trans kn)
  have z2 := kn.size
  clear kn
  go_upto_region 7 with fail
  clear oN
  have SzN := hide szN
  clear szN
  generalize W.alloc (.cells #[.slice a zs.length c] 32) = wm1 at *
  have leN := Nat.le_of_eq (unhide SzN)
  clear SzN
  by_cases hk : 0 ≤ KK
  ·obtain ⟨KN, hKN⟩ : ∃ n : Nat, KK = (n : Int) := ⟨KK.toNat, by omega⟩
   have hsl : Hid (scL (val zs).toNat KK = false) := by show _ = _; rw [hKN]; exact scL_up _ _
   have mk := shl_spec wm1 r hx.1 (by omega) KN (.inr (by omega)) (by omega)
   rw [show (val zs).toNat * 2 ^ KN = NV by rw [← unhide HNV, hKN]; exact (scN_up _ _).symm, ← hKN] at mk
   clear hKN
   go_wp2_with fail
   refine (mk).mono ?_
   rintro e w3 ⟨vn, rfl, rn, k3⟩
   replace r := r.kp k3
   replace qf0 := k3.loose0 (zbl q0) qf0
   replace qf1 := k3.loose0 (zbl q1) qf1
   replace qf2 := k3.loose0 (zbl q2) qf2
   replace Nf0 := k3.loose0 (zbl N0) Nf0
   replace p0 := k3.cell0 p0
   replace p1 := k3.cell0 p1
   replace p2 := k3.cell0 p2
   replace q0 := k3.cell0 q0
   replace q1 := k3.cell0 q1
   replace q2 := k3.cell0 q2
   replace N0 := k3.cell0 N0
   replace K := hide ((unhide K).trans k3)
   have z4 := k3.size
   clear k3
   clear mk
   obtain ⟨an, cn, hv⟩ := Row.form' rn
   subst hv
   go_upto_region 11 with fail
   have sS0 := unhide S0
   replace r := r.set_other (p := ⟨W.heap.size, 0, none⟩) (by dsimp only; omega) (.slice an (limbs NV).length cn)
   replace rn := rn.set_other (p := ⟨W.heap.size, 0, none⟩) (by dsimp only; omega) (.slice an (limbs NV).length cn)
   replace p0 := cell_aside (.slice an (limbs NV).length cn) (r := ⟨W.heap.size, 0, none⟩) (by dsimp only; omega) p0
   replace p1 := cell_aside (.slice an (limbs NV).length cn) (r := ⟨W.heap.size, 0, none⟩) (by dsimp only; omega) p1
   replace p2 := cell_aside (.slice an (limbs NV).length cn) (r := ⟨W.heap.size, 0, none⟩) (by dsimp only; omega) p2
   replace q0 := cell_aside (.slice an (limbs NV).length cn) (r := ⟨W.heap.size, 0, none⟩) (by dsimp only; omega) q0
   replace q1 := cell_aside (.slice an (limbs NV).length cn) (r := ⟨W.heap.size, 0, none⟩) (by dsimp only; omega) q1
   replace q2 := cell_aside (.slice an (limbs NV).length cn) (r := ⟨W.heap.size, 0, none⟩) (by dsimp only; omega) q2
   replace qf0 : (w3.setCell ⟨W.heap.size, 0, none⟩ (.slice an (limbs NV).length cn)).frozen? _ = false := (frozen_set _ _ _ _ _).trans qf0
   replace qf1 : (w3.setCell ⟨W.heap.size, 0, none⟩ (.slice an (limbs NV).length cn)).frozen? _ = false := (frozen_set _ _ _ _ _).trans qf1
   replace qf2 : (w3.setCell ⟨W.heap.size, 0, none⟩ (.slice an (limbs NV).length cn)).frozen? _ = false := (frozen_set _ _ _ _ _).trans qf2
   replace Nf0 : (w3.setCell ⟨W.heap.size, 0, none⟩ (.slice an (limbs NV).length cn)).frozen? _ = false := (frozen_set _ _ _ _ _).trans Nf0
   replace N0 : (w3.setCell ⟨W.heap.size, 0, none⟩ (.slice an (limbs NV).length cn)).cell? ⟨W.heap.size, 0, none⟩ = some (.slice an (limbs NV).length cn) := cell_on _ _ _ _ _ N0
   replace K := hide ((unhide K).setNew (p := ⟨W.heap.size, 0, none⟩) (by dsimp only; omega) (.slice an (limbs NV).length cn))
   have zs5 : (w3.setCell ⟨W.heap.size, 0, none⟩ (.slice an (limbs NV).length cn)).heap.size = w3.heap.size := by simp [World.setCell]
   clear sS0
   generalize w3.setCell ⟨W.heap.size, 0, none⟩ (.slice an (limbs NV).length cn) = ws5 at *
   have mk := root_spec ws5 rn (limbs_nrm _) (by omega)
   rw [limbs_val, Int.toNat_natCast, unhide HQN] at mk
   go_wp2_with fail
   refine (mk).mono ?_
   rintro e w6 ⟨vq, rfl, rq, k6⟩
   replace r := r.kp k6
   replace rn := rn.kp k6
   replace qf0 := k6.loose0 (zbl q0) qf0
   replace qf1 := k6.loose0 (zbl q1) qf1
   replace qf2 := k6.loose0 (zbl q2) qf2
   replace Nf0 := k6.loose0 (zbl N0) Nf0
   replace p0 := k6.cell0 p0
   replace p1 := k6.cell0 p1
   replace p2 := k6.cell0 p2
   replace q0 := k6.cell0 q0
   replace q1 := k6.cell0 q1
   replace q2 := k6.cell0 q2
   replace N0 := k6.cell0 N0
   replace K := hide ((unhide K).trans k6)
   have z7 := k6.size
   clear k6
   clear mk
   obtain ⟨aq, cq, hv⟩ := Row.form' rq
   subst hv
   have oU := N0
   have kn := (Kept.refl 0 0 w6).alloc (.cells #[.slice aq (limbs QN).length cq] 32)
   have U0 : (w6.alloc (.cells #[.slice aq (limbs QN).length cq] 32)).cell? ⟨w6.heap.size, 0, none⟩ = some (.slice aq (limbs QN).length cq) := new_cell2 _ _ _ _ _ _ rfl rfl
   have Uf0 : (w6.alloc (.cells #[.slice aq (limbs QN).length cq] 32)).frozen? ⟨w6.heap.size, 0, none⟩ = false := new_loose2 _ _ _ _ _ rfl
   have szU : w6.heap.size + 1 = (w6.alloc (.cells #[.slice aq (limbs QN).length cq] 32)).heap.size := by simp
   replace r := r.kp kn
   replace rn := rn.kp kn
   replace rq := rq.kp kn
   replace qf0 := kn.loose0 (zbl q0) qf0
   replace qf1 := kn.loose0 (zbl q1) qf1
   replace qf2 := kn.loose0 (zbl q2) qf2
   replace Nf0 := kn.loose0 (zbl N0) Nf0
   replace p0 := kn.cell0 p0
   replace p1 := kn.cell0 p1
   replace p2 := kn.cell0 p2
   replace q0 := kn.cell0 q0
   replace q1 := kn.cell0 q1
   replace q2 := kn.cell0 q2
   replace N0 := kn.cell0 N0
   replace K := hide ((unhide K).trans kn)
   have z9 := kn.size
   clear kn
   go_upto_region 12 with fail
   clear oU
   have SzU := hide szU
   clear szU
   generalize w6.alloc (.cells #[.slice aq (limbs QN).length cq] 32) = wm8 at *
   have leU := Nat.le_of_eq (unhide SzU)
   clear SzU
   by_cases hc : QN * QN = NV
   ·have hci : cmpI (val (limbs (QN * QN))) (val (limbs NV)) = 0 := by rw [limbs_val, limbs_val]; exact cmpI_eq (by omega)
    have hq2 : QQ = QN * 2 := by rw [unhide EQQ, unhide hsl, hc]; simp; omega
    clear hc hQle
    have hmv : limbs (val (limbs QN) * val (limbs QN)).toNat = limbs (QN * QN) := by rw [limbs_val, ← Int.natCast_mul, Int.toNat_natCast]
    have HCI := hide hci
    clear hci
    have kd := (Kept.refl 0 0 wm8).drew
    replace r := r.kp kd
    replace rn := rn.kp kd
    replace rq := rq.kp kd
    replace qf0 := kd.loose0 (zbl q0) qf0
    replace qf1 := kd.loose0 (zbl q1) qf1
    replace qf2 := kd.loose0 (zbl q2) qf2
    replace Nf0 := kd.loose0 (zbl N0) Nf0
    replace Uf0 := kd.loose0 (zbl U0) Uf0
    replace p0 := kd.cell0 p0
    replace p1 := kd.cell0 p1
    replace p2 := kd.cell0 p2
    replace q0 := kd.cell0 q0
    replace q1 := kd.cell0 q1
    replace q2 := kd.cell0 q2
    replace N0 := kd.cell0 N0
    replace U0 := kd.cell0 U0
    replace K := hide ((unhide K).trans kd)
    have z10 := kd.size
    clear kd
    refine wp_region_held_drew (S := (fun w' => w'.cell? ⟨w6.heap.size, 0, none⟩ = some (.slice aq (limbs QN).length cq) ∧ w'.cell? ⟨W.heap.size, 0, none⟩ = some (.slice an (limbs NV).length cn))) (by kernel_rfl) ?_ (fun hH => ?_)
    ·exact ⟨U0, N0⟩
    generalize wm8.drew = wd11 at *
    refine wpAnyH_take (i := 0) (v := .agg #[.slice aq (limbs QN).length cq]) rfl (by kernel_rfl) (by kernel_rfl) (by kernel_rfl) (fun _ _ _ h => h) (Or.inl ⟨by rfl, ?_⟩) hH ?_
    ·intro wq hSw
     try dsimp only at hSw
     go_simp
    try simp only [Act.put, zq1, zq2, zq3, zq4, zq5, zq6]
    refine wpAnyH_take (i := 1) (v := .agg #[.slice aq (limbs QN).length cq]) rfl (by kernel_rfl) (by kernel_rfl) (by kernel_rfl) (fun _ _ _ h => h) (Or.inl ⟨by rfl, ?_⟩) hH ?_
    ·intro wq hSw
     try dsimp only at hSw
     go_simp
    try simp only [Act.put, zq1, zq2, zq3, zq4, zq5, zq6]
    refine wpAnyH_take (i := 3) (v := .agg #[.slice an (limbs NV).length cn]) rfl (by kernel_rfl) (by kernel_rfl) (by kernel_rfl) (fun _ _ _ h => h) (Or.inl ⟨by rfl, ?_⟩) hH ?_
    ·intro wq hSw
     try dsimp only at hSw
     go_simp
    try simp only [Act.put, zq1, zq2, zq3, zq4, zq5, zq6]
    refine wpAnyH_ready (rs := [2]) (by kernel_rfl) (by simp) ?_
    refine AllReadyH.cons rfl (fun KK hK => ?_) AllReadyH.nil
    simp only [zq1, zq2, zq3]
    rw [if_pos (by rfl)]
    refine wps2 56 (.tmp 38) (.tmp 39) _ rfl in_l2mul_q (.agg #[.slice aq (limbs QN).length cq]) (.agg #[.slice aq (limbs QN).length cq]) rfl rfl (mul_spec _ rq rq (limbs_lim _) (limbs_lim _) (by omega) (by omega)) ?_
    rintro e w12 ⟨vm, rfl, rm, k12⟩
    refine ⟨_, rfl, ?_⟩
    replace r := r.kp k12
    replace rn := rn.kp k12
    replace rq := rq.kp k12
    replace qf0 := k12.loose0 (zbl q0) qf0
    replace qf1 := k12.loose0 (zbl q1) qf1
    replace qf2 := k12.loose0 (zbl q2) qf2
    replace Nf0 := k12.loose0 (zbl N0) Nf0
    replace Uf0 := k12.loose0 (zbl U0) Uf0
    replace p0 := k12.cell0 p0
    replace p1 := k12.cell0 p1
    replace p2 := k12.cell0 p2
    replace q0 := k12.cell0 q0
    replace q1 := k12.cell0 q1
    replace q2 := k12.cell0 q2
    replace N0 := k12.cell0 N0
    replace U0 := k12.cell0 U0
    replace K := hide ((unhide K).trans k12)
    have z13 := k12.size
    clear k12
    rw [hmv] at rm
    clear hmv
    obtain ⟨am, cm, hv⟩ := Row.form' rm
    subst hv
    clear hH
    refine hK.out _ _ ?_ (fun hH => ?_)
    ·exact ⟨U0, N0⟩
    clear hK KK
    try simp only [Act.put, zq1, zq2, zq3, zq4, zq5, zq6]
    refine wpAnyH_ready (rs := [4]) (by kernel_rfl) (by simp) ?_
    refine AllReadyH.cons rfl (fun KK hK => ?_) AllReadyH.nil
    simp only [zq1, zq2, zq3]
    rw [if_pos (by rfl)]
    refine wps2 55 (.tmp 40) (.tmp 41) _ rfl in_l2cmp_q (.agg #[.slice am (limbs (QN * QN)).length cm]) (.agg #[.slice an (limbs NV).length cn]) rfl rfl (Calls.mono (cmp_spec _ rm rn (limbs_nrm _) (limbs_nrm _)) (fun e w' h => (show e = .returned (.int .i64 (0)) ∧ Kept 0 0 _ w' from ⟨by rw [h.1, unhide HCI], h.2⟩))) ?_
    rintro e w14 ⟨rfl, k14⟩
    refine ⟨_, rfl, ?_⟩
    replace r := r.kp k14
    replace rn := rn.kp k14
    replace rq := rq.kp k14
    replace rm := rm.kp k14
    replace qf0 := k14.loose0 (zbl q0) qf0
    replace qf1 := k14.loose0 (zbl q1) qf1
    replace qf2 := k14.loose0 (zbl q2) qf2
    replace Nf0 := k14.loose0 (zbl N0) Nf0
    replace Uf0 := k14.loose0 (zbl U0) Uf0
    replace p0 := k14.cell0 p0
    replace p1 := k14.cell0 p1
    replace p2 := k14.cell0 p2
    replace q0 := k14.cell0 q0
    replace q1 := k14.cell0 q1
    replace q2 := k14.cell0 q2
    replace N0 := k14.cell0 N0
    replace U0 := k14.cell0 U0
    replace K := hide ((unhide K).trans k14)
    have z15 := k14.size
    clear k14
    clear hH
    refine hK.out _ _ ?_ (fun hH => ?_)
    ·exact ⟨U0, N0⟩
    clear hK KK
    try simp only [Act.put, zq1, zq2, zq3, zq4, zq5, zq6]
    refine wpAnyH_take (i := 5) (v := .bool false) rfl (by kernel_rfl) (by kernel_rfl) (by kernel_rfl) (fun _ _ _ h => h) (Or.inl ⟨by rfl, ?_⟩) hH ?_
    ·intro wq hSw
     try dsimp only at hSw
     go_simp
    try simp only [Act.put, zq1, zq2, zq3, zq4, zq5, zq6]
    refine wpAnyH_done (by kernel_rfl) ?_ _
    clear hH
    go_upto_region 14 with fail
    have mk := shl_spec w14 rq (limbs_lim _) (by omega) 1 (.inr (by omega)) (by omega)
    rw [limbs_val, Int.toNat_natCast, Nat.pow_one] at mk
    go_wp2_with fail
    refine (mk).mono ?_
    rintro e w16 ⟨vs, rfl, rs, k16⟩
    replace r := r.kp k16
    replace rn := rn.kp k16
    replace rq := rq.kp k16
    replace rm := rm.kp k16
    replace qf0 := k16.loose0 (zbl q0) qf0
    replace qf1 := k16.loose0 (zbl q1) qf1
    replace qf2 := k16.loose0 (zbl q2) qf2
    replace Nf0 := k16.loose0 (zbl N0) Nf0
    replace Uf0 := k16.loose0 (zbl U0) Uf0
    replace p0 := k16.cell0 p0
    replace p1 := k16.cell0 p1
    replace p2 := k16.cell0 p2
    replace q0 := k16.cell0 q0
    replace q1 := k16.cell0 q1
    replace q2 := k16.cell0 q2
    replace N0 := k16.cell0 N0
    replace U0 := k16.cell0 U0
    replace K := hide ((unhide K).trans k16)
    have z17 := k16.size
    clear k16
    clear mk
    obtain ⟨ah, ch, hv⟩ := Row.form' rs
    subst hv
    go_upto_region 15 with fail
    have sS0 := unhide S0
    replace r := r.set_other (p := ⟨w6.heap.size, 0, none⟩) (by dsimp only; omega) (.slice ah (limbs (QN * 2)).length ch)
    replace rn := rn.set_other (p := ⟨w6.heap.size, 0, none⟩) (by dsimp only; omega) (.slice ah (limbs (QN * 2)).length ch)
    replace rq := rq.set_other (p := ⟨w6.heap.size, 0, none⟩) (by dsimp only; omega) (.slice ah (limbs (QN * 2)).length ch)
    replace rm := rm.set_other (p := ⟨w6.heap.size, 0, none⟩) (by dsimp only; omega) (.slice ah (limbs (QN * 2)).length ch)
    replace rs := rs.set_other (p := ⟨w6.heap.size, 0, none⟩) (by dsimp only; omega) (.slice ah (limbs (QN * 2)).length ch)
    replace p0 := cell_aside (.slice ah (limbs (QN * 2)).length ch) (r := ⟨w6.heap.size, 0, none⟩) (by dsimp only; omega) p0
    replace p1 := cell_aside (.slice ah (limbs (QN * 2)).length ch) (r := ⟨w6.heap.size, 0, none⟩) (by dsimp only; omega) p1
    replace p2 := cell_aside (.slice ah (limbs (QN * 2)).length ch) (r := ⟨w6.heap.size, 0, none⟩) (by dsimp only; omega) p2
    replace q0 := cell_aside (.slice ah (limbs (QN * 2)).length ch) (r := ⟨w6.heap.size, 0, none⟩) (by dsimp only; omega) q0
    replace q1 := cell_aside (.slice ah (limbs (QN * 2)).length ch) (r := ⟨w6.heap.size, 0, none⟩) (by dsimp only; omega) q1
    replace q2 := cell_aside (.slice ah (limbs (QN * 2)).length ch) (r := ⟨w6.heap.size, 0, none⟩) (by dsimp only; omega) q2
    replace N0 := cell_aside (.slice ah (limbs (QN * 2)).length ch) (r := ⟨w6.heap.size, 0, none⟩) (by dsimp only; omega) N0
    replace qf0 : (w16.setCell ⟨w6.heap.size, 0, none⟩ (.slice ah (limbs (QN * 2)).length ch)).frozen? _ = false := (frozen_set _ _ _ _ _).trans qf0
    replace qf1 : (w16.setCell ⟨w6.heap.size, 0, none⟩ (.slice ah (limbs (QN * 2)).length ch)).frozen? _ = false := (frozen_set _ _ _ _ _).trans qf1
    replace qf2 : (w16.setCell ⟨w6.heap.size, 0, none⟩ (.slice ah (limbs (QN * 2)).length ch)).frozen? _ = false := (frozen_set _ _ _ _ _).trans qf2
    replace Nf0 : (w16.setCell ⟨w6.heap.size, 0, none⟩ (.slice ah (limbs (QN * 2)).length ch)).frozen? _ = false := (frozen_set _ _ _ _ _).trans Nf0
    replace Uf0 : (w16.setCell ⟨w6.heap.size, 0, none⟩ (.slice ah (limbs (QN * 2)).length ch)).frozen? _ = false := (frozen_set _ _ _ _ _).trans Uf0
    replace U0 : (w16.setCell ⟨w6.heap.size, 0, none⟩ (.slice ah (limbs (QN * 2)).length ch)).cell? ⟨w6.heap.size, 0, none⟩ = some (.slice ah (limbs (QN * 2)).length ch) := cell_on _ _ _ _ _ U0
    replace K := hide ((unhide K).setNew (p := ⟨w6.heap.size, 0, none⟩) (by dsimp only; omega) (.slice ah (limbs (QN * 2)).length ch))
    have zs18 : (w16.setCell ⟨w6.heap.size, 0, none⟩ (.slice ah (limbs (QN * 2)).length ch)).heap.size = w16.heap.size := by simp [World.setCell]
    clear sS0
    generalize w16.setCell ⟨w6.heap.size, 0, none⟩ (.slice ah (limbs (QN * 2)).length ch) = ws18 at *
    have hnl : limbs (val (limbs (QN * 2))).toNat = limbs QQ := by rw [limbs_val, Int.toNat_natCast, hq2]
    have lml : Lim (limbs (QN * 2)) := limbs_lim _
    clear hq2
    go_upto_region 17 with fail
    have hsg : (false && decide (0 < (limbs (QN * 2)).length)) = false := rfl
    have mk := make_spec false ws18 rs lml (by omega)
    rw [hsg, hnl] at mk
    clear hsg hnl
    go_wp2_with fail
    refine (mk).mono ?_
    rintro e w19 ⟨v3, rfl, r3, k19⟩
    replace r := r.kp k19
    replace rn := rn.kp k19
    replace rq := rq.kp k19
    replace rm := rm.kp k19
    replace rs := rs.kp k19
    replace qf0 := k19.loose0 (zbl q0) qf0
    replace qf1 := k19.loose0 (zbl q1) qf1
    replace qf2 := k19.loose0 (zbl q2) qf2
    replace Nf0 := k19.loose0 (zbl N0) Nf0
    replace Uf0 := k19.loose0 (zbl U0) Uf0
    replace p0 := k19.cell0 p0
    replace p1 := k19.cell0 p1
    replace p2 := k19.cell0 p2
    replace q0 := k19.cell0 q0
    replace q1 := k19.cell0 q1
    replace q2 := k19.cell0 q2
    replace N0 := k19.cell0 N0
    replace U0 := k19.cell0 U0
    replace K := hide ((unhide K).trans k19)
    have z20 := k19.size
    clear k19
    clear mk
    have mk := make4_spec false (low - 3) MQ (unhide HMQ) (by omega) (by omega) w19 r3 ⟨limbs_nrm _, fun _ => len_pos_limbs pQ⟩ (by omega)
    rw [unhide HGS, unhide HGL, unhide HGE] at mk
    go_wp2_with fail
    refine (mk).mono ?_
    rintro e w21 ⟨v8, rfl, r8, k21⟩
    replace r := r.kp k21
    replace rn := rn.kp k21
    replace rq := rq.kp k21
    replace rm := rm.kp k21
    replace rs := rs.kp k21
    replace r3 := r3.kp k21
    replace qf0 := k21.loose0 (zbl q0) qf0
    replace qf1 := k21.loose0 (zbl q1) qf1
    replace qf2 := k21.loose0 (zbl q2) qf2
    replace Nf0 := k21.loose0 (zbl N0) Nf0
    replace Uf0 := k21.loose0 (zbl U0) Uf0
    replace p0 := k21.cell0 p0
    replace p1 := k21.cell0 p1
    replace p2 := k21.cell0 p2
    replace q0 := k21.cell0 q0
    replace q1 := k21.cell0 q1
    replace q2 := k21.cell0 q2
    replace N0 := k21.cell0 N0
    replace U0 := k21.cell0 U0
    replace K := hide ((unhide K).trans k21)
    have z22 := k21.size
    clear k21
    clear mk
    obtain ⟨a8, c8, hv⟩ := Row.form' r8
    subst hv
    have R := hide ((((r8.set_other (p := ⟨w.heap.size + 1, 0, none⟩) (.inl (by have := unhide S0; dsimp only; omega)) (.bool GS)).set_other (p := ⟨w.heap.size + 1, 1, none⟩) (.inl (by have := unhide S0; dsimp only; omega)) (.slice a8 GL.length c8)).set_other (p := ⟨w.heap.size + 1, 2, none⟩) (.inl (by have := unhide S0; dsimp only; omega)) (.int .i64 GE)).tight.wider (lo' := w.heap.size) (by have := unhide S0; omega) (Nat.le_refl _))
    have K7 := hide ((((unhide K).setNew (p := ⟨w.heap.size + 1, 0, none⟩) (by simp) (.bool GS)).setNew (p := ⟨w.heap.size + 1, 1, none⟩) (by simp) (.slice a8 GL.length c8)).setNew (p := ⟨w.heap.size + 1, 2, none⟩) (by simp) (.int .i64 GE))
    clear r rn rq rm rs r3 r8 K 
    go_wp2_with fail
    exact bodyPost_ret (v := .agg #[.bool GS, .slice a8 GL.length c8, .int .i64 GE]) (by simp [results, Tryz.results30, go_sem, q0, q1, q2]) rfl ⟨_, rfl, unhide R, unhide K7⟩
   ·have hci : cmpI (val (limbs (QN * QN))) (val (limbs NV)) = -1 := by rw [limbs_val, limbs_val]; exact cmpI_lt (by omega)
    have hq2 : QQ = QN * 2 + 1 := by rw [unhide EQQ, decide_eq_true hc, Bool.or_true, if_pos rfl]; omega
    clear hc hQle
    have hmv : limbs (val (limbs QN) * val (limbs QN)).toNat = limbs (QN * QN) := by rw [limbs_val, ← Int.natCast_mul, Int.toNat_natCast]
    have HCI := hide hci
    clear hci
    have kd := (Kept.refl 0 0 wm8).drew
    replace r := r.kp kd
    replace rn := rn.kp kd
    replace rq := rq.kp kd
    replace qf0 := kd.loose0 (zbl q0) qf0
    replace qf1 := kd.loose0 (zbl q1) qf1
    replace qf2 := kd.loose0 (zbl q2) qf2
    replace Nf0 := kd.loose0 (zbl N0) Nf0
    replace Uf0 := kd.loose0 (zbl U0) Uf0
    replace p0 := kd.cell0 p0
    replace p1 := kd.cell0 p1
    replace p2 := kd.cell0 p2
    replace q0 := kd.cell0 q0
    replace q1 := kd.cell0 q1
    replace q2 := kd.cell0 q2
    replace N0 := kd.cell0 N0
    replace U0 := kd.cell0 U0
    replace K := hide ((unhide K).trans kd)
    have z10 := kd.size
    clear kd
    refine wp_region_held_drew (S := (fun w' => w'.cell? ⟨w6.heap.size, 0, none⟩ = some (.slice aq (limbs QN).length cq) ∧ w'.cell? ⟨W.heap.size, 0, none⟩ = some (.slice an (limbs NV).length cn))) (by kernel_rfl) ?_ (fun hH => ?_)
    ·exact ⟨U0, N0⟩
    generalize wm8.drew = wd11 at *
    refine wpAnyH_take (i := 0) (v := .agg #[.slice aq (limbs QN).length cq]) rfl (by kernel_rfl) (by kernel_rfl) (by kernel_rfl) (fun _ _ _ h => h) (Or.inl ⟨by rfl, ?_⟩) hH ?_
    ·intro wq hSw
     try dsimp only at hSw
     go_simp
    try simp only [Act.put, zq1, zq2, zq3, zq4, zq5, zq6]
    refine wpAnyH_take (i := 1) (v := .agg #[.slice aq (limbs QN).length cq]) rfl (by kernel_rfl) (by kernel_rfl) (by kernel_rfl) (fun _ _ _ h => h) (Or.inl ⟨by rfl, ?_⟩) hH ?_
    ·intro wq hSw
     try dsimp only at hSw
     go_simp
    try simp only [Act.put, zq1, zq2, zq3, zq4, zq5, zq6]
    refine wpAnyH_take (i := 3) (v := .agg #[.slice an (limbs NV).length cn]) rfl (by kernel_rfl) (by kernel_rfl) (by kernel_rfl) (fun _ _ _ h => h) (Or.inl ⟨by rfl, ?_⟩) hH ?_
    ·intro wq hSw
     try dsimp only at hSw
     go_simp
    try simp only [Act.put, zq1, zq2, zq3, zq4, zq5, zq6]
    refine wpAnyH_ready (rs := [2]) (by kernel_rfl) (by simp) ?_
    refine AllReadyH.cons rfl (fun KK hK => ?_) AllReadyH.nil
    simp only [zq1, zq2, zq3]
    rw [if_pos (by rfl)]
    refine wps2 56 (.tmp 38) (.tmp 39) _ rfl in_l2mul_q (.agg #[.slice aq (limbs QN).length cq]) (.agg #[.slice aq (limbs QN).length cq]) rfl rfl (mul_spec _ rq rq (limbs_lim _) (limbs_lim _) (by omega) (by omega)) ?_
    rintro e w12 ⟨vm, rfl, rm, k12⟩
    refine ⟨_, rfl, ?_⟩
    replace r := r.kp k12
    replace rn := rn.kp k12
    replace rq := rq.kp k12
    replace qf0 := k12.loose0 (zbl q0) qf0
    replace qf1 := k12.loose0 (zbl q1) qf1
    replace qf2 := k12.loose0 (zbl q2) qf2
    replace Nf0 := k12.loose0 (zbl N0) Nf0
    replace Uf0 := k12.loose0 (zbl U0) Uf0
    replace p0 := k12.cell0 p0
    replace p1 := k12.cell0 p1
    replace p2 := k12.cell0 p2
    replace q0 := k12.cell0 q0
    replace q1 := k12.cell0 q1
    replace q2 := k12.cell0 q2
    replace N0 := k12.cell0 N0
    replace U0 := k12.cell0 U0
    replace K := hide ((unhide K).trans k12)
    have z13 := k12.size
    clear k12
    rw [hmv] at rm
    clear hmv
    obtain ⟨am, cm, hv⟩ := Row.form' rm
    subst hv
    clear hH
    refine hK.out _ _ ?_ (fun hH => ?_)
    ·exact ⟨U0, N0⟩
    clear hK KK
    try simp only [Act.put, zq1, zq2, zq3, zq4, zq5, zq6]
    refine wpAnyH_ready (rs := [4]) (by kernel_rfl) (by simp) ?_
    refine AllReadyH.cons rfl (fun KK hK => ?_) AllReadyH.nil
    simp only [zq1, zq2, zq3]
    rw [if_pos (by rfl)]
    refine wps2 55 (.tmp 40) (.tmp 41) _ rfl in_l2cmp_q (.agg #[.slice am (limbs (QN * QN)).length cm]) (.agg #[.slice an (limbs NV).length cn]) rfl rfl (Calls.mono (cmp_spec _ rm rn (limbs_nrm _) (limbs_nrm _)) (fun e w' h => (show e = .returned (.int .i64 (-1)) ∧ Kept 0 0 _ w' from ⟨by rw [h.1, unhide HCI], h.2⟩))) ?_
    rintro e w14 ⟨rfl, k14⟩
    refine ⟨_, rfl, ?_⟩
    replace r := r.kp k14
    replace rn := rn.kp k14
    replace rq := rq.kp k14
    replace rm := rm.kp k14
    replace qf0 := k14.loose0 (zbl q0) qf0
    replace qf1 := k14.loose0 (zbl q1) qf1
    replace qf2 := k14.loose0 (zbl q2) qf2
    replace Nf0 := k14.loose0 (zbl N0) Nf0
    replace Uf0 := k14.loose0 (zbl U0) Uf0
    replace p0 := k14.cell0 p0
    replace p1 := k14.cell0 p1
    replace p2 := k14.cell0 p2
    replace q0 := k14.cell0 q0
    replace q1 := k14.cell0 q1
    replace q2 := k14.cell0 q2
    replace N0 := k14.cell0 N0
    replace U0 := k14.cell0 U0
    replace K := hide ((unhide K).trans k14)
    have z15 := k14.size
    clear k14
    clear hH
    refine hK.out _ _ ?_ (fun hH => ?_)
    ·exact ⟨U0, N0⟩
    clear hK KK
    try simp only [Act.put, zq1, zq2, zq3, zq4, zq5, zq6]
    refine wpAnyH_take (i := 5) (v := .bool true) rfl (by kernel_rfl) (by kernel_rfl) (by kernel_rfl) (fun _ _ _ h => h) (Or.inl ⟨by rfl, ?_⟩) hH ?_
    ·intro wq hSw
     try dsimp only at hSw
     go_simp
    try simp only [Act.put, zq1, zq2, zq3, zq4, zq5, zq6]
    refine wpAnyH_done (by kernel_rfl) ?_ _
    clear hH
    go_upto_region 14 with fail
    have mk := shl_spec w14 rq (limbs_lim _) (by omega) 1 (.inr (by omega)) (by omega)
    rw [limbs_val, Int.toNat_natCast, Nat.pow_one] at mk
    go_wp2_with fail
    refine (mk).mono ?_
    rintro e w16 ⟨vs, rfl, rs, k16⟩
    replace r := r.kp k16
    replace rn := rn.kp k16
    replace rq := rq.kp k16
    replace rm := rm.kp k16
    replace qf0 := k16.loose0 (zbl q0) qf0
    replace qf1 := k16.loose0 (zbl q1) qf1
    replace qf2 := k16.loose0 (zbl q2) qf2
    replace Nf0 := k16.loose0 (zbl N0) Nf0
    replace Uf0 := k16.loose0 (zbl U0) Uf0
    replace p0 := k16.cell0 p0
    replace p1 := k16.cell0 p1
    replace p2 := k16.cell0 p2
    replace q0 := k16.cell0 q0
    replace q1 := k16.cell0 q1
    replace q2 := k16.cell0 q2
    replace N0 := k16.cell0 N0
    replace U0 := k16.cell0 U0
    replace K := hide ((unhide K).trans k16)
    have z17 := k16.size
    clear k16
    clear mk
    obtain ⟨ah, ch, hv⟩ := Row.form' rs
    subst hv
    go_upto_region 15 with fail
    have sS0 := unhide S0
    replace r := r.set_other (p := ⟨w6.heap.size, 0, none⟩) (by dsimp only; omega) (.slice ah (limbs (QN * 2)).length ch)
    replace rn := rn.set_other (p := ⟨w6.heap.size, 0, none⟩) (by dsimp only; omega) (.slice ah (limbs (QN * 2)).length ch)
    replace rq := rq.set_other (p := ⟨w6.heap.size, 0, none⟩) (by dsimp only; omega) (.slice ah (limbs (QN * 2)).length ch)
    replace rm := rm.set_other (p := ⟨w6.heap.size, 0, none⟩) (by dsimp only; omega) (.slice ah (limbs (QN * 2)).length ch)
    replace rs := rs.set_other (p := ⟨w6.heap.size, 0, none⟩) (by dsimp only; omega) (.slice ah (limbs (QN * 2)).length ch)
    replace p0 := cell_aside (.slice ah (limbs (QN * 2)).length ch) (r := ⟨w6.heap.size, 0, none⟩) (by dsimp only; omega) p0
    replace p1 := cell_aside (.slice ah (limbs (QN * 2)).length ch) (r := ⟨w6.heap.size, 0, none⟩) (by dsimp only; omega) p1
    replace p2 := cell_aside (.slice ah (limbs (QN * 2)).length ch) (r := ⟨w6.heap.size, 0, none⟩) (by dsimp only; omega) p2
    replace q0 := cell_aside (.slice ah (limbs (QN * 2)).length ch) (r := ⟨w6.heap.size, 0, none⟩) (by dsimp only; omega) q0
    replace q1 := cell_aside (.slice ah (limbs (QN * 2)).length ch) (r := ⟨w6.heap.size, 0, none⟩) (by dsimp only; omega) q1
    replace q2 := cell_aside (.slice ah (limbs (QN * 2)).length ch) (r := ⟨w6.heap.size, 0, none⟩) (by dsimp only; omega) q2
    replace N0 := cell_aside (.slice ah (limbs (QN * 2)).length ch) (r := ⟨w6.heap.size, 0, none⟩) (by dsimp only; omega) N0
    replace qf0 : (w16.setCell ⟨w6.heap.size, 0, none⟩ (.slice ah (limbs (QN * 2)).length ch)).frozen? _ = false := (frozen_set _ _ _ _ _).trans qf0
    replace qf1 : (w16.setCell ⟨w6.heap.size, 0, none⟩ (.slice ah (limbs (QN * 2)).length ch)).frozen? _ = false := (frozen_set _ _ _ _ _).trans qf1
    replace qf2 : (w16.setCell ⟨w6.heap.size, 0, none⟩ (.slice ah (limbs (QN * 2)).length ch)).frozen? _ = false := (frozen_set _ _ _ _ _).trans qf2
    replace Nf0 : (w16.setCell ⟨w6.heap.size, 0, none⟩ (.slice ah (limbs (QN * 2)).length ch)).frozen? _ = false := (frozen_set _ _ _ _ _).trans Nf0
    replace Uf0 : (w16.setCell ⟨w6.heap.size, 0, none⟩ (.slice ah (limbs (QN * 2)).length ch)).frozen? _ = false := (frozen_set _ _ _ _ _).trans Uf0
    replace U0 : (w16.setCell ⟨w6.heap.size, 0, none⟩ (.slice ah (limbs (QN * 2)).length ch)).cell? ⟨w6.heap.size, 0, none⟩ = some (.slice ah (limbs (QN * 2)).length ch) := cell_on _ _ _ _ _ U0
    replace K := hide ((unhide K).setNew (p := ⟨w6.heap.size, 0, none⟩) (by dsimp only; omega) (.slice ah (limbs (QN * 2)).length ch))
    have zs18 : (w16.setCell ⟨w6.heap.size, 0, none⟩ (.slice ah (limbs (QN * 2)).length ch)).heap.size = w16.heap.size := by simp [World.setCell]
    clear sS0
    generalize w16.setCell ⟨w6.heap.size, 0, none⟩ (.slice ah (limbs (QN * 2)).length ch) = ws18 at *
    have eS : (val (limbs (QN * 2)) + val (limbs (1 : Int).toNat)).toNat = QQ := by rw [limbs_val, limbs_val, hq2]; omega
    have hnl : limbs (val (limbs QQ)).toNat = limbs QQ := by rw [limbs_val, Int.toNat_natCast]
    have lml : Lim (limbs QQ) := limbs_lim _
    clear hq2
    go_upto_region 16 with fail
    have kd := (Kept.refl 0 0 ws18).drew
    replace r := r.kp kd
    replace rn := rn.kp kd
    replace rq := rq.kp kd
    replace rm := rm.kp kd
    replace rs := rs.kp kd
    replace qf0 := kd.loose0 (zbl q0) qf0
    replace qf1 := kd.loose0 (zbl q1) qf1
    replace qf2 := kd.loose0 (zbl q2) qf2
    replace Nf0 := kd.loose0 (zbl N0) Nf0
    replace Uf0 := kd.loose0 (zbl U0) Uf0
    replace p0 := kd.cell0 p0
    replace p1 := kd.cell0 p1
    replace p2 := kd.cell0 p2
    replace q0 := kd.cell0 q0
    replace q1 := kd.cell0 q1
    replace q2 := kd.cell0 q2
    replace N0 := kd.cell0 N0
    replace U0 := kd.cell0 U0
    replace K := hide ((unhide K).trans kd)
    have z19 := kd.size
    clear kd
    refine wp_region_held_drew (S := (fun w' => True)) (by kernel_rfl) ?_ (fun hH => ?_)
    ·exact trivial
    generalize ws18.drew = wd20 at *
    refine wpAnyH_ready (rs := [0, 1]) (by kernel_rfl) (by simp) ?_
    refine AllReadyH.cons rfl (fun KK hK => ?_) (AllReadyH.cons rfl (fun KK hK => ?_) AllReadyH.nil)
    ·simp only [zq1, zq2, zq3]
     rw [if_pos (by rfl)]
     go_simp
     clear hH
     refine hK.out _ _ ?_ (fun hH => ?_)
     ·exact trivial
     clear hK KK
     try simp only [Act.put, zq1, zq2, zq3, zq4, zq5, zq6]
     refine wpAnyH_ready (rs := [1]) (by kernel_rfl) (by simp) ?_
     refine AllReadyH.cons rfl (fun KK hK => ?_) AllReadyH.nil
     simp only [zq1, zq2, zq3]
     rw [if_pos (by rfl)]
     refine wps1 51 (.const (.int .i64 1)) _ rfl in_l2of_r (.int .i64 1) rfl (of_spec _ 1 (by omega)) ?_
     rintro e w21 ⟨v4, rfl, r4, k21⟩
     refine ⟨_, rfl, ?_⟩
     replace r := r.kp k21
     replace rn := rn.kp k21
     replace rq := rq.kp k21
     replace rm := rm.kp k21
     replace rs := rs.kp k21
     replace qf0 := k21.loose0 (zbl q0) qf0
     replace qf1 := k21.loose0 (zbl q1) qf1
     replace qf2 := k21.loose0 (zbl q2) qf2
     replace Nf0 := k21.loose0 (zbl N0) Nf0
     replace Uf0 := k21.loose0 (zbl U0) Uf0
     replace p0 := k21.cell0 p0
     replace p1 := k21.cell0 p1
     replace p2 := k21.cell0 p2
     replace q0 := k21.cell0 q0
     replace q1 := k21.cell0 q1
     replace q2 := k21.cell0 q2
     replace N0 := k21.cell0 N0
     replace U0 := k21.cell0 U0
     replace K := hide ((unhide K).trans k21)
     have z22 := k21.size
     clear k21
     obtain ⟨a4, c4, hv⟩ := Row.form' r4
     subst hv
     clear hH
     refine hK.out _ _ ?_ (fun hH => ?_)
     ·exact trivial
     clear hK KK
     try simp only [Act.put, zq1, zq2, zq3, zq4, zq5, zq6]
     refine wpAnyH_ready (rs := [2]) (by kernel_rfl) (by simp) ?_
     refine AllReadyH.cons rfl (fun KK hK => ?_) AllReadyH.nil
     simp only [zq1, zq2, zq3]
     rw [if_pos (by rfl)]
     refine wps2 50 (.tmp 47) (.tmp 48) _ rfl in_l2add_r (.agg #[.slice ah (limbs (QN * 2)).length ch]) (.agg #[.slice a4 (limbs (1 : Int).toNat).length c4]) rfl rfl (add_spec _ rs r4 (limbs_lim _) (limbs_lim _) (by omega) (by decide)) ?_
     rintro e w23 ⟨v5, rfl, r5, k23⟩
     refine ⟨_, rfl, ?_⟩
     replace r := r.kp k23
     replace rn := rn.kp k23
     replace rq := rq.kp k23
     replace rm := rm.kp k23
     replace rs := rs.kp k23
     replace r4 := r4.kp k23
     replace qf0 := k23.loose0 (zbl q0) qf0
     replace qf1 := k23.loose0 (zbl q1) qf1
     replace qf2 := k23.loose0 (zbl q2) qf2
     replace Nf0 := k23.loose0 (zbl N0) Nf0
     replace Uf0 := k23.loose0 (zbl U0) Uf0
     replace p0 := k23.cell0 p0
     replace p1 := k23.cell0 p1
     replace p2 := k23.cell0 p2
     replace q0 := k23.cell0 q0
     replace q1 := k23.cell0 q1
     replace q2 := k23.cell0 q2
     replace N0 := k23.cell0 N0
     replace U0 := k23.cell0 U0
     replace K := hide ((unhide K).trans k23)
     have z24 := k23.size
     clear k23
     rw [eS] at r5
     clear hH
     refine hK.out _ _ ?_ (fun hH => ?_)
     ·exact trivial
     clear hK KK
     try simp only [Act.put, zq1, zq2, zq3, zq4, zq5, zq6]
     obtain ⟨a5, c5, hv⟩ := Row.form' r5
     subst hv
     refine wpAnyH_ready (rs := [3]) (by kernel_rfl) (by simp) ?_
     refine AllReadyH.cons rfl (fun KK hK => ?_) AllReadyH.nil
     simp only [zq1, zq2, zq3]
     rw [if_pos (by rfl)]
     go_simp
     clear hH
     refine hK.out _ _ ?_ (fun hH => ?_)
     ·trivial
     clear hK KK
     try simp only [Act.put, zq1, zq2, zq3, zq4, zq5, zq6]
     refine wpAnyH_done (by kernel_rfl) ?_ _
     clear hH
     try go_simp
     have sS0 := unhide S0
     replace r := r.set_other (p := ⟨w6.heap.size, 0, none⟩) (by dsimp only; omega) (.slice a5 (limbs QQ).length c5)
     replace rn := rn.set_other (p := ⟨w6.heap.size, 0, none⟩) (by dsimp only; omega) (.slice a5 (limbs QQ).length c5)
     replace rq := rq.set_other (p := ⟨w6.heap.size, 0, none⟩) (by dsimp only; omega) (.slice a5 (limbs QQ).length c5)
     replace rm := rm.set_other (p := ⟨w6.heap.size, 0, none⟩) (by dsimp only; omega) (.slice a5 (limbs QQ).length c5)
     replace rs := rs.set_other (p := ⟨w6.heap.size, 0, none⟩) (by dsimp only; omega) (.slice a5 (limbs QQ).length c5)
     replace r4 := r4.set_other (p := ⟨w6.heap.size, 0, none⟩) (by dsimp only; omega) (.slice a5 (limbs QQ).length c5)
     replace r5 := r5.set_other (p := ⟨w6.heap.size, 0, none⟩) (by dsimp only; omega) (.slice a5 (limbs QQ).length c5)
     replace p0 := cell_aside (.slice a5 (limbs QQ).length c5) (r := ⟨w6.heap.size, 0, none⟩) (by dsimp only; omega) p0
     replace p1 := cell_aside (.slice a5 (limbs QQ).length c5) (r := ⟨w6.heap.size, 0, none⟩) (by dsimp only; omega) p1
     replace p2 := cell_aside (.slice a5 (limbs QQ).length c5) (r := ⟨w6.heap.size, 0, none⟩) (by dsimp only; omega) p2
     replace q0 := cell_aside (.slice a5 (limbs QQ).length c5) (r := ⟨w6.heap.size, 0, none⟩) (by dsimp only; omega) q0
     replace q1 := cell_aside (.slice a5 (limbs QQ).length c5) (r := ⟨w6.heap.size, 0, none⟩) (by dsimp only; omega) q1
     replace q2 := cell_aside (.slice a5 (limbs QQ).length c5) (r := ⟨w6.heap.size, 0, none⟩) (by dsimp only; omega) q2
     replace N0 := cell_aside (.slice a5 (limbs QQ).length c5) (r := ⟨w6.heap.size, 0, none⟩) (by dsimp only; omega) N0
     replace qf0 : (w23.setCell ⟨w6.heap.size, 0, none⟩ (.slice a5 (limbs QQ).length c5)).frozen? _ = false := (frozen_set _ _ _ _ _).trans qf0
     replace qf1 : (w23.setCell ⟨w6.heap.size, 0, none⟩ (.slice a5 (limbs QQ).length c5)).frozen? _ = false := (frozen_set _ _ _ _ _).trans qf1
     replace qf2 : (w23.setCell ⟨w6.heap.size, 0, none⟩ (.slice a5 (limbs QQ).length c5)).frozen? _ = false := (frozen_set _ _ _ _ _).trans qf2
     replace Nf0 : (w23.setCell ⟨w6.heap.size, 0, none⟩ (.slice a5 (limbs QQ).length c5)).frozen? _ = false := (frozen_set _ _ _ _ _).trans Nf0
     replace Uf0 : (w23.setCell ⟨w6.heap.size, 0, none⟩ (.slice a5 (limbs QQ).length c5)).frozen? _ = false := (frozen_set _ _ _ _ _).trans Uf0
     replace U0 : (w23.setCell ⟨w6.heap.size, 0, none⟩ (.slice a5 (limbs QQ).length c5)).cell? ⟨w6.heap.size, 0, none⟩ = some (.slice a5 (limbs QQ).length c5) := cell_on _ _ _ _ _ U0
     replace K := hide ((unhide K).setNew (p := ⟨w6.heap.size, 0, none⟩) (by dsimp only; omega) (.slice a5 (limbs QQ).length c5))
     have zs25 : (w23.setCell ⟨w6.heap.size, 0, none⟩ (.slice a5 (limbs QQ).length c5)).heap.size = w23.heap.size := by simp [World.setCell]
     clear sS0
     generalize w23.setCell ⟨w6.heap.size, 0, none⟩ (.slice a5 (limbs QQ).length c5) = ws25 at *
     go_upto_region 17 with fail
     have hsg : (false && decide (0 < (limbs QQ).length)) = false := rfl
     have mk := make_spec false ws25 r5 lml (by omega)
     rw [hsg, hnl] at mk
     clear hsg hnl
     go_wp2_with fail
     refine (mk).mono ?_
     rintro e w26 ⟨v3, rfl, r3, k26⟩
     replace r := r.kp k26
     replace rn := rn.kp k26
     replace rq := rq.kp k26
     replace rm := rm.kp k26
     replace rs := rs.kp k26
     replace r4 := r4.kp k26
     replace r5 := r5.kp k26
     replace qf0 := k26.loose0 (zbl q0) qf0
     replace qf1 := k26.loose0 (zbl q1) qf1
     replace qf2 := k26.loose0 (zbl q2) qf2
     replace Nf0 := k26.loose0 (zbl N0) Nf0
     replace Uf0 := k26.loose0 (zbl U0) Uf0
     replace p0 := k26.cell0 p0
     replace p1 := k26.cell0 p1
     replace p2 := k26.cell0 p2
     replace q0 := k26.cell0 q0
     replace q1 := k26.cell0 q1
     replace q2 := k26.cell0 q2
     replace N0 := k26.cell0 N0
     replace U0 := k26.cell0 U0
     replace K := hide ((unhide K).trans k26)
     have z27 := k26.size
     clear k26
     clear mk
     have mk := make4_spec false (low - 3) MQ (unhide HMQ) (by omega) (by omega) w26 r3 ⟨limbs_nrm _, fun _ => len_pos_limbs pQ⟩ (by omega)
     rw [unhide HGS, unhide HGL, unhide HGE] at mk
     go_wp2_with fail
     refine (mk).mono ?_
     rintro e w28 ⟨v8, rfl, r8, k28⟩
     replace r := r.kp k28
     replace rn := rn.kp k28
     replace rq := rq.kp k28
     replace rm := rm.kp k28
     replace rs := rs.kp k28
     replace r4 := r4.kp k28
     replace r5 := r5.kp k28
     replace r3 := r3.kp k28
     replace qf0 := k28.loose0 (zbl q0) qf0
     replace qf1 := k28.loose0 (zbl q1) qf1
     replace qf2 := k28.loose0 (zbl q2) qf2
     replace Nf0 := k28.loose0 (zbl N0) Nf0
     replace Uf0 := k28.loose0 (zbl U0) Uf0
     replace p0 := k28.cell0 p0
     replace p1 := k28.cell0 p1
     replace p2 := k28.cell0 p2
     replace q0 := k28.cell0 q0
     replace q1 := k28.cell0 q1
     replace q2 := k28.cell0 q2
     replace N0 := k28.cell0 N0
     replace U0 := k28.cell0 U0
     replace K := hide ((unhide K).trans k28)
     have z29 := k28.size
     clear k28
     clear mk
     obtain ⟨a8, c8, hv⟩ := Row.form' r8
     subst hv
     have R := hide ((((r8.set_other (p := ⟨w.heap.size + 1, 0, none⟩) (.inl (by have := unhide S0; dsimp only; omega)) (.bool GS)).set_other (p := ⟨w.heap.size + 1, 1, none⟩) (.inl (by have := unhide S0; dsimp only; omega)) (.slice a8 GL.length c8)).set_other (p := ⟨w.heap.size + 1, 2, none⟩) (.inl (by have := unhide S0; dsimp only; omega)) (.int .i64 GE)).tight.wider (lo' := w.heap.size) (by have := unhide S0; omega) (Nat.le_refl _))
     have K7 := hide ((((unhide K).setNew (p := ⟨w.heap.size + 1, 0, none⟩) (by simp) (.bool GS)).setNew (p := ⟨w.heap.size + 1, 1, none⟩) (by simp) (.slice a8 GL.length c8)).setNew (p := ⟨w.heap.size + 1, 2, none⟩) (by simp) (.int .i64 GE))
     clear r rn rq rm rs r4 r5 r3 r8 K 
     go_wp2_with fail
     exact bodyPost_ret (v := .agg #[.bool GS, .slice a8 GL.length c8, .int .i64 GE]) (by simp [results, Tryz.results30, go_sem, q0, q1, q2]) rfl ⟨_, rfl, unhide R, unhide K7⟩
    ·simp only [zq1, zq2, zq3]
     rw [if_pos (by rfl)]
     refine wps1 51 (.const (.int .i64 1)) _ rfl in_l2of_r (.int .i64 1) rfl (of_spec _ 1 (by omega)) ?_
     rintro e w21 ⟨v4, rfl, r4, k21⟩
     refine ⟨_, rfl, ?_⟩
     replace r := r.kp k21
     replace rn := rn.kp k21
     replace rq := rq.kp k21
     replace rm := rm.kp k21
     replace rs := rs.kp k21
     replace qf0 := k21.loose0 (zbl q0) qf0
     replace qf1 := k21.loose0 (zbl q1) qf1
     replace qf2 := k21.loose0 (zbl q2) qf2
     replace Nf0 := k21.loose0 (zbl N0) Nf0
     replace Uf0 := k21.loose0 (zbl U0) Uf0
     replace p0 := k21.cell0 p0
     replace p1 := k21.cell0 p1
     replace p2 := k21.cell0 p2
     replace q0 := k21.cell0 q0
     replace q1 := k21.cell0 q1
     replace q2 := k21.cell0 q2
     replace N0 := k21.cell0 N0
     replace U0 := k21.cell0 U0
     replace K := hide ((unhide K).trans k21)
     have z22 := k21.size
     clear k21
     obtain ⟨a4, c4, hv⟩ := Row.form' r4
     subst hv
     clear hH
     refine hK.out _ _ ?_ (fun hH => ?_)
     ·exact trivial
     clear hK KK
     try simp only [Act.put, zq1, zq2, zq3, zq4, zq5, zq6]
     refine wpAnyH_ready (rs := [0]) (by kernel_rfl) (by simp) ?_
     refine AllReadyH.cons rfl (fun KK hK => ?_) AllReadyH.nil
     simp only [zq1, zq2, zq3]
     rw [if_pos (by rfl)]
     go_simp
     clear hH
     refine hK.out _ _ ?_ (fun hH => ?_)
     ·exact trivial
     clear hK KK
     try simp only [Act.put, zq1, zq2, zq3, zq4, zq5, zq6]
     refine wpAnyH_ready (rs := [2]) (by kernel_rfl) (by simp) ?_
     refine AllReadyH.cons rfl (fun KK hK => ?_) AllReadyH.nil
     simp only [zq1, zq2, zq3]
     rw [if_pos (by rfl)]
     refine wps2 50 (.tmp 47) (.tmp 48) _ rfl in_l2add_r (.agg #[.slice ah (limbs (QN * 2)).length ch]) (.agg #[.slice a4 (limbs (1 : Int).toNat).length c4]) rfl rfl (add_spec _ rs r4 (limbs_lim _) (limbs_lim _) (by omega) (by decide)) ?_
     rintro e w23 ⟨v5, rfl, r5, k23⟩
     refine ⟨_, rfl, ?_⟩
     replace r := r.kp k23
     replace rn := rn.kp k23
     replace rq := rq.kp k23
     replace rm := rm.kp k23
     replace rs := rs.kp k23
     replace r4 := r4.kp k23
     replace qf0 := k23.loose0 (zbl q0) qf0
     replace qf1 := k23.loose0 (zbl q1) qf1
     replace qf2 := k23.loose0 (zbl q2) qf2
     replace Nf0 := k23.loose0 (zbl N0) Nf0
     replace Uf0 := k23.loose0 (zbl U0) Uf0
     replace p0 := k23.cell0 p0
     replace p1 := k23.cell0 p1
     replace p2 := k23.cell0 p2
     replace q0 := k23.cell0 q0
     replace q1 := k23.cell0 q1
     replace q2 := k23.cell0 q2
     replace N0 := k23.cell0 N0
     replace U0 := k23.cell0 U0
     replace K := hide ((unhide K).trans k23)
     have z24 := k23.size
     clear k23
     rw [eS] at r5
     clear hH
     refine hK.out _ _ ?_ (fun hH => ?_)
     ·exact trivial
     clear hK KK
     try simp only [Act.put, zq1, zq2, zq3, zq4, zq5, zq6]
     obtain ⟨a5, c5, hv⟩ := Row.form' r5
     subst hv
     refine wpAnyH_ready (rs := [3]) (by kernel_rfl) (by simp) ?_
     refine AllReadyH.cons rfl (fun KK hK => ?_) AllReadyH.nil
     simp only [zq1, zq2, zq3]
     rw [if_pos (by rfl)]
     go_simp
     clear hH
     refine hK.out _ _ ?_ (fun hH => ?_)
     ·trivial
     clear hK KK
     try simp only [Act.put, zq1, zq2, zq3, zq4, zq5, zq6]
     refine wpAnyH_done (by kernel_rfl) ?_ _
     clear hH
     try go_simp
     have sS0 := unhide S0
     replace r := r.set_other (p := ⟨w6.heap.size, 0, none⟩) (by dsimp only; omega) (.slice a5 (limbs QQ).length c5)
     replace rn := rn.set_other (p := ⟨w6.heap.size, 0, none⟩) (by dsimp only; omega) (.slice a5 (limbs QQ).length c5)
     replace rq := rq.set_other (p := ⟨w6.heap.size, 0, none⟩) (by dsimp only; omega) (.slice a5 (limbs QQ).length c5)
     replace rm := rm.set_other (p := ⟨w6.heap.size, 0, none⟩) (by dsimp only; omega) (.slice a5 (limbs QQ).length c5)
     replace rs := rs.set_other (p := ⟨w6.heap.size, 0, none⟩) (by dsimp only; omega) (.slice a5 (limbs QQ).length c5)
     replace r4 := r4.set_other (p := ⟨w6.heap.size, 0, none⟩) (by dsimp only; omega) (.slice a5 (limbs QQ).length c5)
     replace r5 := r5.set_other (p := ⟨w6.heap.size, 0, none⟩) (by dsimp only; omega) (.slice a5 (limbs QQ).length c5)
     replace p0 := cell_aside (.slice a5 (limbs QQ).length c5) (r := ⟨w6.heap.size, 0, none⟩) (by dsimp only; omega) p0
     replace p1 := cell_aside (.slice a5 (limbs QQ).length c5) (r := ⟨w6.heap.size, 0, none⟩) (by dsimp only; omega) p1
     replace p2 := cell_aside (.slice a5 (limbs QQ).length c5) (r := ⟨w6.heap.size, 0, none⟩) (by dsimp only; omega) p2
     replace q0 := cell_aside (.slice a5 (limbs QQ).length c5) (r := ⟨w6.heap.size, 0, none⟩) (by dsimp only; omega) q0
     replace q1 := cell_aside (.slice a5 (limbs QQ).length c5) (r := ⟨w6.heap.size, 0, none⟩) (by dsimp only; omega) q1
     replace q2 := cell_aside (.slice a5 (limbs QQ).length c5) (r := ⟨w6.heap.size, 0, none⟩) (by dsimp only; omega) q2
     replace N0 := cell_aside (.slice a5 (limbs QQ).length c5) (r := ⟨w6.heap.size, 0, none⟩) (by dsimp only; omega) N0
     replace qf0 : (w23.setCell ⟨w6.heap.size, 0, none⟩ (.slice a5 (limbs QQ).length c5)).frozen? _ = false := (frozen_set _ _ _ _ _).trans qf0
     replace qf1 : (w23.setCell ⟨w6.heap.size, 0, none⟩ (.slice a5 (limbs QQ).length c5)).frozen? _ = false := (frozen_set _ _ _ _ _).trans qf1
     replace qf2 : (w23.setCell ⟨w6.heap.size, 0, none⟩ (.slice a5 (limbs QQ).length c5)).frozen? _ = false := (frozen_set _ _ _ _ _).trans qf2
     replace Nf0 : (w23.setCell ⟨w6.heap.size, 0, none⟩ (.slice a5 (limbs QQ).length c5)).frozen? _ = false := (frozen_set _ _ _ _ _).trans Nf0
     replace Uf0 : (w23.setCell ⟨w6.heap.size, 0, none⟩ (.slice a5 (limbs QQ).length c5)).frozen? _ = false := (frozen_set _ _ _ _ _).trans Uf0
     replace U0 : (w23.setCell ⟨w6.heap.size, 0, none⟩ (.slice a5 (limbs QQ).length c5)).cell? ⟨w6.heap.size, 0, none⟩ = some (.slice a5 (limbs QQ).length c5) := cell_on _ _ _ _ _ U0
     replace K := hide ((unhide K).setNew (p := ⟨w6.heap.size, 0, none⟩) (by dsimp only; omega) (.slice a5 (limbs QQ).length c5))
     have zs25 : (w23.setCell ⟨w6.heap.size, 0, none⟩ (.slice a5 (limbs QQ).length c5)).heap.size = w23.heap.size := by simp [World.setCell]
     clear sS0
     generalize w23.setCell ⟨w6.heap.size, 0, none⟩ (.slice a5 (limbs QQ).length c5) = ws25 at *
     go_upto_region 17 with fail
     have hsg : (false && decide (0 < (limbs QQ).length)) = false := rfl
     have mk := make_spec false ws25 r5 lml (by omega)
     rw [hsg, hnl] at mk
     clear hsg hnl
     go_wp2_with fail
     refine (mk).mono ?_
     rintro e w26 ⟨v3, rfl, r3, k26⟩
     replace r := r.kp k26
     replace rn := rn.kp k26
     replace rq := rq.kp k26
     replace rm := rm.kp k26
     replace rs := rs.kp k26
     replace r4 := r4.kp k26
     replace r5 := r5.kp k26
     replace qf0 := k26.loose0 (zbl q0) qf0
     replace qf1 := k26.loose0 (zbl q1) qf1
     replace qf2 := k26.loose0 (zbl q2) qf2
     replace Nf0 := k26.loose0 (zbl N0) Nf0
     replace Uf0 := k26.loose0 (zbl U0) Uf0
     replace p0 := k26.cell0 p0
     replace p1 := k26.cell0 p1
     replace p2 := k26.cell0 p2
     replace q0 := k26.cell0 q0
     replace q1 := k26.cell0 q1
     replace q2 := k26.cell0 q2
     replace N0 := k26.cell0 N0
     replace U0 := k26.cell0 U0
     replace K := hide ((unhide K).trans k26)
     have z27 := k26.size
     clear k26
     clear mk
     have mk := make4_spec false (low - 3) MQ (unhide HMQ) (by omega) (by omega) w26 r3 ⟨limbs_nrm _, fun _ => len_pos_limbs pQ⟩ (by omega)
     rw [unhide HGS, unhide HGL, unhide HGE] at mk
     go_wp2_with fail
     refine (mk).mono ?_
     rintro e w28 ⟨v8, rfl, r8, k28⟩
     replace r := r.kp k28
     replace rn := rn.kp k28
     replace rq := rq.kp k28
     replace rm := rm.kp k28
     replace rs := rs.kp k28
     replace r4 := r4.kp k28
     replace r5 := r5.kp k28
     replace r3 := r3.kp k28
     replace qf0 := k28.loose0 (zbl q0) qf0
     replace qf1 := k28.loose0 (zbl q1) qf1
     replace qf2 := k28.loose0 (zbl q2) qf2
     replace Nf0 := k28.loose0 (zbl N0) Nf0
     replace Uf0 := k28.loose0 (zbl U0) Uf0
     replace p0 := k28.cell0 p0
     replace p1 := k28.cell0 p1
     replace p2 := k28.cell0 p2
     replace q0 := k28.cell0 q0
     replace q1 := k28.cell0 q1
     replace q2 := k28.cell0 q2
     replace N0 := k28.cell0 N0
     replace U0 := k28.cell0 U0
     replace K := hide ((unhide K).trans k28)
     have z29 := k28.size
     clear k28
     clear mk
     obtain ⟨a8, c8, hv⟩ := Row.form' r8
     subst hv
     have R := hide ((((r8.set_other (p := ⟨w.heap.size + 1, 0, none⟩) (.inl (by have := unhide S0; dsimp only; omega)) (.bool GS)).set_other (p := ⟨w.heap.size + 1, 1, none⟩) (.inl (by have := unhide S0; dsimp only; omega)) (.slice a8 GL.length c8)).set_other (p := ⟨w.heap.size + 1, 2, none⟩) (.inl (by have := unhide S0; dsimp only; omega)) (.int .i64 GE)).tight.wider (lo' := w.heap.size) (by have := unhide S0; omega) (Nat.le_refl _))
     have K7 := hide ((((unhide K).setNew (p := ⟨w.heap.size + 1, 0, none⟩) (by simp) (.bool GS)).setNew (p := ⟨w.heap.size + 1, 1, none⟩) (by simp) (.slice a8 GL.length c8)).setNew (p := ⟨w.heap.size + 1, 2, none⟩) (by simp) (.int .i64 GE))
     clear r rn rq rm rs r4 r5 r3 r8 K 
     go_wp2_with fail
     exact bodyPost_ret (v := .agg #[.bool GS, .slice a8 GL.length c8, .int .i64 GE]) (by simp [results, Tryz.results30, go_sem, q0, q1, q2]) rfl ⟨_, rfl, unhide R, unhide K7⟩
  obtain ⟨KN, hKN⟩ : ∃ n : Nat, -KK = (n : Int) := ⟨(-KK).toNat, by omega⟩
  have hKN2 : KK = -(KN : Int) := by omega
  have hsl : Hid (scL (val zs).toNat KK = true) := by show _ = _; rw [hKN2, scL_down _ _ (by omega)]; exact decide_eq_true (odd_lost hodd (by omega))
  have mk := shr_spec wm1 r hx.1 (by omega) KN (by omega)
  rw [show (val zs).toNat / 2 ^ KN = NV by rw [← unhide HNV, hKN2]; exact (scN_down _ _ (by omega)).symm, ← hKN] at mk
  clear hKN hKN2
  go_wp2_with fail
  refine (mk).mono ?_
  rintro e w3 ⟨vn, rfl, rn, k3⟩
  replace r := r.kp k3
  replace qf0 := k3.loose0 (zbl q0) qf0
  replace qf1 := k3.loose0 (zbl q1) qf1
  replace qf2 := k3.loose0 (zbl q2) qf2
  replace Nf0 := k3.loose0 (zbl N0) Nf0
  replace p0 := k3.cell0 p0
  replace p1 := k3.cell0 p1
  replace p2 := k3.cell0 p2
  replace q0 := k3.cell0 q0
  replace q1 := k3.cell0 q1
  replace q2 := k3.cell0 q2
  replace N0 := k3.cell0 N0
  replace K := hide ((unhide K).trans k3)
  have z4 := k3.size
  clear k3
  clear mk
  obtain ⟨an, cn, hv⟩ := Row.form' rn
  subst hv
  go_upto_region 11 with fail
  have sS0 := unhide S0
  replace r := r.set_other (p := ⟨W.heap.size, 0, none⟩) (by dsimp only; omega) (.slice an (limbs NV).length cn)
  replace rn := rn.set_other (p := ⟨W.heap.size, 0, none⟩) (by dsimp only; omega) (.slice an (limbs NV).length cn)
  replace p0 := cell_aside (.slice an (limbs NV).length cn) (r := ⟨W.heap.size, 0, none⟩) (by dsimp only; omega) p0
  replace p1 := cell_aside (.slice an (limbs NV).length cn) (r := ⟨W.heap.size, 0, none⟩) (by dsimp only; omega) p1
  replace p2 := cell_aside (.slice an (limbs NV).length cn) (r := ⟨W.heap.size, 0, none⟩) (by dsimp only; omega) p2
  replace q0 := cell_aside (.slice an (limbs NV).length cn) (r := ⟨W.heap.size, 0, none⟩) (by dsimp only; omega) q0
  replace q1 := cell_aside (.slice an (limbs NV).length cn) (r := ⟨W.heap.size, 0, none⟩) (by dsimp only; omega) q1
  replace q2 := cell_aside (.slice an (limbs NV).length cn) (r := ⟨W.heap.size, 0, none⟩) (by dsimp only; omega) q2
  replace qf0 : (w3.setCell ⟨W.heap.size, 0, none⟩ (.slice an (limbs NV).length cn)).frozen? _ = false := (frozen_set _ _ _ _ _).trans qf0
  replace qf1 : (w3.setCell ⟨W.heap.size, 0, none⟩ (.slice an (limbs NV).length cn)).frozen? _ = false := (frozen_set _ _ _ _ _).trans qf1
  replace qf2 : (w3.setCell ⟨W.heap.size, 0, none⟩ (.slice an (limbs NV).length cn)).frozen? _ = false := (frozen_set _ _ _ _ _).trans qf2
  replace Nf0 : (w3.setCell ⟨W.heap.size, 0, none⟩ (.slice an (limbs NV).length cn)).frozen? _ = false := (frozen_set _ _ _ _ _).trans Nf0
  replace N0 : (w3.setCell ⟨W.heap.size, 0, none⟩ (.slice an (limbs NV).length cn)).cell? ⟨W.heap.size, 0, none⟩ = some (.slice an (limbs NV).length cn) := cell_on _ _ _ _ _ N0
  replace K := hide ((unhide K).setNew (p := ⟨W.heap.size, 0, none⟩) (by dsimp only; omega) (.slice an (limbs NV).length cn))
  have zs5 : (w3.setCell ⟨W.heap.size, 0, none⟩ (.slice an (limbs NV).length cn)).heap.size = w3.heap.size := by simp [World.setCell]
  clear sS0
  generalize w3.setCell ⟨W.heap.size, 0, none⟩ (.slice an (limbs NV).length cn) = ws5 at *
  have mk := root_spec ws5 rn (limbs_nrm _) (by omega)
  rw [limbs_val, Int.toNat_natCast, unhide HQN] at mk
  go_wp2_with fail
  refine (mk).mono ?_
  rintro e w6 ⟨vq, rfl, rq, k6⟩
  replace r := r.kp k6
  replace rn := rn.kp k6
  replace qf0 := k6.loose0 (zbl q0) qf0
  replace qf1 := k6.loose0 (zbl q1) qf1
  replace qf2 := k6.loose0 (zbl q2) qf2
  replace Nf0 := k6.loose0 (zbl N0) Nf0
  replace p0 := k6.cell0 p0
  replace p1 := k6.cell0 p1
  replace p2 := k6.cell0 p2
  replace q0 := k6.cell0 q0
  replace q1 := k6.cell0 q1
  replace q2 := k6.cell0 q2
  replace N0 := k6.cell0 N0
  replace K := hide ((unhide K).trans k6)
  have z7 := k6.size
  clear k6
  clear mk
  obtain ⟨aq, cq, hv⟩ := Row.form' rq
  subst hv
  have oU := N0
  have kn := (Kept.refl 0 0 w6).alloc (.cells #[.slice aq (limbs QN).length cq] 32)
  have U0 : (w6.alloc (.cells #[.slice aq (limbs QN).length cq] 32)).cell? ⟨w6.heap.size, 0, none⟩ = some (.slice aq (limbs QN).length cq) := new_cell2 _ _ _ _ _ _ rfl rfl
  have Uf0 : (w6.alloc (.cells #[.slice aq (limbs QN).length cq] 32)).frozen? ⟨w6.heap.size, 0, none⟩ = false := new_loose2 _ _ _ _ _ rfl
  have szU : w6.heap.size + 1 = (w6.alloc (.cells #[.slice aq (limbs QN).length cq] 32)).heap.size := by simp
  replace r := r.kp kn
  replace rn := rn.kp kn
  replace rq := rq.kp kn
  replace qf0 := kn.loose0 (zbl q0) qf0
  replace qf1 := kn.loose0 (zbl q1) qf1
  replace qf2 := kn.loose0 (zbl q2) qf2
  replace Nf0 := kn.loose0 (zbl N0) Nf0
  replace p0 := kn.cell0 p0
  replace p1 := kn.cell0 p1
  replace p2 := kn.cell0 p2
  replace q0 := kn.cell0 q0
  replace q1 := kn.cell0 q1
  replace q2 := kn.cell0 q2
  replace N0 := kn.cell0 N0
  replace K := hide ((unhide K).trans kn)
  have z9 := kn.size
  clear kn
  go_upto_region 12 with fail
  clear oU
  have SzU := hide szU
  clear szU
  generalize w6.alloc (.cells #[.slice aq (limbs QN).length cq] 32) = wm8 at *
  have leU := Nat.le_of_eq (unhide SzU)
  clear SzU
  by_cases hc : QN * QN = NV
  ·have hci : cmpI (val (limbs (QN * QN))) (val (limbs NV)) = 0 := by rw [limbs_val, limbs_val]; exact cmpI_eq (by omega)
   have hq2 : QQ = QN * 2 + 1 := by rw [unhide EQQ, unhide hsl]; simp; omega
   clear hc hQle
   have hmv : limbs (val (limbs QN) * val (limbs QN)).toNat = limbs (QN * QN) := by rw [limbs_val, ← Int.natCast_mul, Int.toNat_natCast]
   have HCI := hide hci
   clear hci
   have kd := (Kept.refl 0 0 wm8).drew
   replace r := r.kp kd
   replace rn := rn.kp kd
   replace rq := rq.kp kd
   replace qf0 := kd.loose0 (zbl q0) qf0
   replace qf1 := kd.loose0 (zbl q1) qf1
   replace qf2 := kd.loose0 (zbl q2) qf2
   replace Nf0 := kd.loose0 (zbl N0) Nf0
   replace Uf0 := kd.loose0 (zbl U0) Uf0
   replace p0 := kd.cell0 p0
   replace p1 := kd.cell0 p1
   replace p2 := kd.cell0 p2
   replace q0 := kd.cell0 q0
   replace q1 := kd.cell0 q1
   replace q2 := kd.cell0 q2
   replace N0 := kd.cell0 N0
   replace U0 := kd.cell0 U0
   replace K := hide ((unhide K).trans kd)
   have z10 := kd.size
   clear kd
   refine wp_region_held_drew (S := (fun w' => w'.cell? ⟨w6.heap.size, 0, none⟩ = some (.slice aq (limbs QN).length cq) ∧ w'.cell? ⟨W.heap.size, 0, none⟩ = some (.slice an (limbs NV).length cn))) (by kernel_rfl) ?_ (fun hH => ?_)
   ·exact ⟨U0, N0⟩
   generalize wm8.drew = wd11 at *
   refine wpAnyH_take (i := 0) (v := .agg #[.slice aq (limbs QN).length cq]) rfl (by kernel_rfl) (by kernel_rfl) (by kernel_rfl) (fun _ _ _ h => h) (Or.inl ⟨by rfl, ?_⟩) hH ?_
   ·intro wq hSw
    try dsimp only at hSw
    go_simp
   try simp only [Act.put, zq1, zq2, zq3, zq4, zq5, zq6]
   refine wpAnyH_take (i := 1) (v := .agg #[.slice aq (limbs QN).length cq]) rfl (by kernel_rfl) (by kernel_rfl) (by kernel_rfl) (fun _ _ _ h => h) (Or.inl ⟨by rfl, ?_⟩) hH ?_
   ·intro wq hSw
    try dsimp only at hSw
    go_simp
   try simp only [Act.put, zq1, zq2, zq3, zq4, zq5, zq6]
   refine wpAnyH_take (i := 3) (v := .agg #[.slice an (limbs NV).length cn]) rfl (by kernel_rfl) (by kernel_rfl) (by kernel_rfl) (fun _ _ _ h => h) (Or.inl ⟨by rfl, ?_⟩) hH ?_
   ·intro wq hSw
    try dsimp only at hSw
    go_simp
   try simp only [Act.put, zq1, zq2, zq3, zq4, zq5, zq6]
   refine wpAnyH_ready (rs := [2]) (by kernel_rfl) (by simp) ?_
   refine AllReadyH.cons rfl (fun KK hK => ?_) AllReadyH.nil
   simp only [zq1, zq2, zq3]
   rw [if_pos (by rfl)]
   refine wps2 56 (.tmp 38) (.tmp 39) _ rfl in_l2mul_q (.agg #[.slice aq (limbs QN).length cq]) (.agg #[.slice aq (limbs QN).length cq]) rfl rfl (mul_spec _ rq rq (limbs_lim _) (limbs_lim _) (by omega) (by omega)) ?_
   rintro e w12 ⟨vm, rfl, rm, k12⟩
   refine ⟨_, rfl, ?_⟩
   replace r := r.kp k12
   replace rn := rn.kp k12
   replace rq := rq.kp k12
   replace qf0 := k12.loose0 (zbl q0) qf0
   replace qf1 := k12.loose0 (zbl q1) qf1
   replace qf2 := k12.loose0 (zbl q2) qf2
   replace Nf0 := k12.loose0 (zbl N0) Nf0
   replace Uf0 := k12.loose0 (zbl U0) Uf0
   replace p0 := k12.cell0 p0
   replace p1 := k12.cell0 p1
   replace p2 := k12.cell0 p2
   replace q0 := k12.cell0 q0
   replace q1 := k12.cell0 q1
   replace q2 := k12.cell0 q2
   replace N0 := k12.cell0 N0
   replace U0 := k12.cell0 U0
   replace K := hide ((unhide K).trans k12)
   have z13 := k12.size
   clear k12
   rw [hmv] at rm
   clear hmv
   obtain ⟨am, cm, hv⟩ := Row.form' rm
   subst hv
   clear hH
   refine hK.out _ _ ?_ (fun hH => ?_)
   ·exact ⟨U0, N0⟩
   clear hK KK
   try simp only [Act.put, zq1, zq2, zq3, zq4, zq5, zq6]
   refine wpAnyH_ready (rs := [4]) (by kernel_rfl) (by simp) ?_
   refine AllReadyH.cons rfl (fun KK hK => ?_) AllReadyH.nil
   simp only [zq1, zq2, zq3]
   rw [if_pos (by rfl)]
   refine wps2 55 (.tmp 40) (.tmp 41) _ rfl in_l2cmp_q (.agg #[.slice am (limbs (QN * QN)).length cm]) (.agg #[.slice an (limbs NV).length cn]) rfl rfl (Calls.mono (cmp_spec _ rm rn (limbs_nrm _) (limbs_nrm _)) (fun e w' h => (show e = .returned (.int .i64 (0)) ∧ Kept 0 0 _ w' from ⟨by rw [h.1, unhide HCI], h.2⟩))) ?_
   rintro e w14 ⟨rfl, k14⟩
   refine ⟨_, rfl, ?_⟩
   replace r := r.kp k14
   replace rn := rn.kp k14
   replace rq := rq.kp k14
   replace rm := rm.kp k14
   replace qf0 := k14.loose0 (zbl q0) qf0
   replace qf1 := k14.loose0 (zbl q1) qf1
   replace qf2 := k14.loose0 (zbl q2) qf2
   replace Nf0 := k14.loose0 (zbl N0) Nf0
   replace Uf0 := k14.loose0 (zbl U0) Uf0
   replace p0 := k14.cell0 p0
   replace p1 := k14.cell0 p1
   replace p2 := k14.cell0 p2
   replace q0 := k14.cell0 q0
   replace q1 := k14.cell0 q1
   replace q2 := k14.cell0 q2
   replace N0 := k14.cell0 N0
   replace U0 := k14.cell0 U0
   replace K := hide ((unhide K).trans k14)
   have z15 := k14.size
   clear k14
   clear hH
   refine hK.out _ _ ?_ (fun hH => ?_)
   ·exact ⟨U0, N0⟩
   clear hK KK
   try simp only [Act.put, zq1, zq2, zq3, zq4, zq5, zq6]
   refine wpAnyH_take (i := 5) (v := .bool false) rfl (by kernel_rfl) (by kernel_rfl) (by kernel_rfl) (fun _ _ _ h => h) (Or.inl ⟨by rfl, ?_⟩) hH ?_
   ·intro wq hSw
    try dsimp only at hSw
    go_simp
   try simp only [Act.put, zq1, zq2, zq3, zq4, zq5, zq6]
   refine wpAnyH_done (by kernel_rfl) ?_ _
   clear hH
   go_upto_region 14 with fail
   have mk := shl_spec w14 rq (limbs_lim _) (by omega) 1 (.inr (by omega)) (by omega)
   rw [limbs_val, Int.toNat_natCast, Nat.pow_one] at mk
   go_wp2_with fail
   refine (mk).mono ?_
   rintro e w16 ⟨vs, rfl, rs, k16⟩
   replace r := r.kp k16
   replace rn := rn.kp k16
   replace rq := rq.kp k16
   replace rm := rm.kp k16
   replace qf0 := k16.loose0 (zbl q0) qf0
   replace qf1 := k16.loose0 (zbl q1) qf1
   replace qf2 := k16.loose0 (zbl q2) qf2
   replace Nf0 := k16.loose0 (zbl N0) Nf0
   replace Uf0 := k16.loose0 (zbl U0) Uf0
   replace p0 := k16.cell0 p0
   replace p1 := k16.cell0 p1
   replace p2 := k16.cell0 p2
   replace q0 := k16.cell0 q0
   replace q1 := k16.cell0 q1
   replace q2 := k16.cell0 q2
   replace N0 := k16.cell0 N0
   replace U0 := k16.cell0 U0
   replace K := hide ((unhide K).trans k16)
   have z17 := k16.size
   clear k16
   clear mk
   obtain ⟨ah, ch, hv⟩ := Row.form' rs
   subst hv
   go_upto_region 15 with fail
   have sS0 := unhide S0
   replace r := r.set_other (p := ⟨w6.heap.size, 0, none⟩) (by dsimp only; omega) (.slice ah (limbs (QN * 2)).length ch)
   replace rn := rn.set_other (p := ⟨w6.heap.size, 0, none⟩) (by dsimp only; omega) (.slice ah (limbs (QN * 2)).length ch)
   replace rq := rq.set_other (p := ⟨w6.heap.size, 0, none⟩) (by dsimp only; omega) (.slice ah (limbs (QN * 2)).length ch)
   replace rm := rm.set_other (p := ⟨w6.heap.size, 0, none⟩) (by dsimp only; omega) (.slice ah (limbs (QN * 2)).length ch)
   replace rs := rs.set_other (p := ⟨w6.heap.size, 0, none⟩) (by dsimp only; omega) (.slice ah (limbs (QN * 2)).length ch)
   replace p0 := cell_aside (.slice ah (limbs (QN * 2)).length ch) (r := ⟨w6.heap.size, 0, none⟩) (by dsimp only; omega) p0
   replace p1 := cell_aside (.slice ah (limbs (QN * 2)).length ch) (r := ⟨w6.heap.size, 0, none⟩) (by dsimp only; omega) p1
   replace p2 := cell_aside (.slice ah (limbs (QN * 2)).length ch) (r := ⟨w6.heap.size, 0, none⟩) (by dsimp only; omega) p2
   replace q0 := cell_aside (.slice ah (limbs (QN * 2)).length ch) (r := ⟨w6.heap.size, 0, none⟩) (by dsimp only; omega) q0
   replace q1 := cell_aside (.slice ah (limbs (QN * 2)).length ch) (r := ⟨w6.heap.size, 0, none⟩) (by dsimp only; omega) q1
   replace q2 := cell_aside (.slice ah (limbs (QN * 2)).length ch) (r := ⟨w6.heap.size, 0, none⟩) (by dsimp only; omega) q2
   replace N0 := cell_aside (.slice ah (limbs (QN * 2)).length ch) (r := ⟨w6.heap.size, 0, none⟩) (by dsimp only; omega) N0
   replace qf0 : (w16.setCell ⟨w6.heap.size, 0, none⟩ (.slice ah (limbs (QN * 2)).length ch)).frozen? _ = false := (frozen_set _ _ _ _ _).trans qf0
   replace qf1 : (w16.setCell ⟨w6.heap.size, 0, none⟩ (.slice ah (limbs (QN * 2)).length ch)).frozen? _ = false := (frozen_set _ _ _ _ _).trans qf1
   replace qf2 : (w16.setCell ⟨w6.heap.size, 0, none⟩ (.slice ah (limbs (QN * 2)).length ch)).frozen? _ = false := (frozen_set _ _ _ _ _).trans qf2
   replace Nf0 : (w16.setCell ⟨w6.heap.size, 0, none⟩ (.slice ah (limbs (QN * 2)).length ch)).frozen? _ = false := (frozen_set _ _ _ _ _).trans Nf0
   replace Uf0 : (w16.setCell ⟨w6.heap.size, 0, none⟩ (.slice ah (limbs (QN * 2)).length ch)).frozen? _ = false := (frozen_set _ _ _ _ _).trans Uf0
   replace U0 : (w16.setCell ⟨w6.heap.size, 0, none⟩ (.slice ah (limbs (QN * 2)).length ch)).cell? ⟨w6.heap.size, 0, none⟩ = some (.slice ah (limbs (QN * 2)).length ch) := cell_on _ _ _ _ _ U0
   replace K := hide ((unhide K).setNew (p := ⟨w6.heap.size, 0, none⟩) (by dsimp only; omega) (.slice ah (limbs (QN * 2)).length ch))
   have zs18 : (w16.setCell ⟨w6.heap.size, 0, none⟩ (.slice ah (limbs (QN * 2)).length ch)).heap.size = w16.heap.size := by simp [World.setCell]
   clear sS0
   generalize w16.setCell ⟨w6.heap.size, 0, none⟩ (.slice ah (limbs (QN * 2)).length ch) = ws18 at *
   have eS : (val (limbs (QN * 2)) + val (limbs (1 : Int).toNat)).toNat = QQ := by rw [limbs_val, limbs_val, hq2]; omega
   have hnl : limbs (val (limbs QQ)).toNat = limbs QQ := by rw [limbs_val, Int.toNat_natCast]
   have lml : Lim (limbs QQ) := limbs_lim _
   clear hq2
   go_upto_region 16 with fail
   have kd := (Kept.refl 0 0 ws18).drew
   replace r := r.kp kd
   replace rn := rn.kp kd
   replace rq := rq.kp kd
   replace rm := rm.kp kd
   replace rs := rs.kp kd
   replace qf0 := kd.loose0 (zbl q0) qf0
   replace qf1 := kd.loose0 (zbl q1) qf1
   replace qf2 := kd.loose0 (zbl q2) qf2
   replace Nf0 := kd.loose0 (zbl N0) Nf0
   replace Uf0 := kd.loose0 (zbl U0) Uf0
   replace p0 := kd.cell0 p0
   replace p1 := kd.cell0 p1
   replace p2 := kd.cell0 p2
   replace q0 := kd.cell0 q0
   replace q1 := kd.cell0 q1
   replace q2 := kd.cell0 q2
   replace N0 := kd.cell0 N0
   replace U0 := kd.cell0 U0
   replace K := hide ((unhide K).trans kd)
   have z19 := kd.size
   clear kd
   refine wp_region_held_drew (S := (fun w' => True)) (by kernel_rfl) ?_ (fun hH => ?_)
   ·exact trivial
   generalize ws18.drew = wd20 at *
   refine wpAnyH_ready (rs := [0, 1]) (by kernel_rfl) (by simp) ?_
   refine AllReadyH.cons rfl (fun KK hK => ?_) (AllReadyH.cons rfl (fun KK hK => ?_) AllReadyH.nil)
   ·simp only [zq1, zq2, zq3]
    rw [if_pos (by rfl)]
    go_simp
    clear hH
    refine hK.out _ _ ?_ (fun hH => ?_)
    ·exact trivial
    clear hK KK
    try simp only [Act.put, zq1, zq2, zq3, zq4, zq5, zq6]
    refine wpAnyH_ready (rs := [1]) (by kernel_rfl) (by simp) ?_
    refine AllReadyH.cons rfl (fun KK hK => ?_) AllReadyH.nil
    simp only [zq1, zq2, zq3]
    rw [if_pos (by rfl)]
    refine wps1 51 (.const (.int .i64 1)) _ rfl in_l2of_r (.int .i64 1) rfl (of_spec _ 1 (by omega)) ?_
    rintro e w21 ⟨v4, rfl, r4, k21⟩
    refine ⟨_, rfl, ?_⟩
    replace r := r.kp k21
    replace rn := rn.kp k21
    replace rq := rq.kp k21
    replace rm := rm.kp k21
    replace rs := rs.kp k21
    replace qf0 := k21.loose0 (zbl q0) qf0
    replace qf1 := k21.loose0 (zbl q1) qf1
    replace qf2 := k21.loose0 (zbl q2) qf2
    replace Nf0 := k21.loose0 (zbl N0) Nf0
    replace Uf0 := k21.loose0 (zbl U0) Uf0
    replace p0 := k21.cell0 p0
    replace p1 := k21.cell0 p1
    replace p2 := k21.cell0 p2
    replace q0 := k21.cell0 q0
    replace q1 := k21.cell0 q1
    replace q2 := k21.cell0 q2
    replace N0 := k21.cell0 N0
    replace U0 := k21.cell0 U0
    replace K := hide ((unhide K).trans k21)
    have z22 := k21.size
    clear k21
    obtain ⟨a4, c4, hv⟩ := Row.form' r4
    subst hv
    clear hH
    refine hK.out _ _ ?_ (fun hH => ?_)
    ·exact trivial
    clear hK KK
    try simp only [Act.put, zq1, zq2, zq3, zq4, zq5, zq6]
    refine wpAnyH_ready (rs := [2]) (by kernel_rfl) (by simp) ?_
    refine AllReadyH.cons rfl (fun KK hK => ?_) AllReadyH.nil
    simp only [zq1, zq2, zq3]
    rw [if_pos (by rfl)]
    refine wps2 50 (.tmp 47) (.tmp 48) _ rfl in_l2add_r (.agg #[.slice ah (limbs (QN * 2)).length ch]) (.agg #[.slice a4 (limbs (1 : Int).toNat).length c4]) rfl rfl (add_spec _ rs r4 (limbs_lim _) (limbs_lim _) (by omega) (by decide)) ?_
    rintro e w23 ⟨v5, rfl, r5, k23⟩
    refine ⟨_, rfl, ?_⟩
    replace r := r.kp k23
    replace rn := rn.kp k23
    replace rq := rq.kp k23
    replace rm := rm.kp k23
    replace rs := rs.kp k23
    replace r4 := r4.kp k23
    replace qf0 := k23.loose0 (zbl q0) qf0
    replace qf1 := k23.loose0 (zbl q1) qf1
    replace qf2 := k23.loose0 (zbl q2) qf2
    replace Nf0 := k23.loose0 (zbl N0) Nf0
    replace Uf0 := k23.loose0 (zbl U0) Uf0
    replace p0 := k23.cell0 p0
    replace p1 := k23.cell0 p1
    replace p2 := k23.cell0 p2
    replace q0 := k23.cell0 q0
    replace q1 := k23.cell0 q1
    replace q2 := k23.cell0 q2
    replace N0 := k23.cell0 N0
    replace U0 := k23.cell0 U0
    replace K := hide ((unhide K).trans k23)
    have z24 := k23.size
    clear k23
    rw [eS] at r5
    clear hH
    refine hK.out _ _ ?_ (fun hH => ?_)
    ·exact trivial
    clear hK KK
    try simp only [Act.put, zq1, zq2, zq3, zq4, zq5, zq6]
    obtain ⟨a5, c5, hv⟩ := Row.form' r5
    subst hv
    refine wpAnyH_ready (rs := [3]) (by kernel_rfl) (by simp) ?_
    refine AllReadyH.cons rfl (fun KK hK => ?_) AllReadyH.nil
    simp only [zq1, zq2, zq3]
    rw [if_pos (by rfl)]
    go_simp
    clear hH
    refine hK.out _ _ ?_ (fun hH => ?_)
    ·trivial
    clear hK KK
    try simp only [Act.put, zq1, zq2, zq3, zq4, zq5, zq6]
    refine wpAnyH_done (by kernel_rfl) ?_ _
    clear hH
    try go_simp
    have sS0 := unhide S0
    replace r := r.set_other (p := ⟨w6.heap.size, 0, none⟩) (by dsimp only; omega) (.slice a5 (limbs QQ).length c5)
    replace rn := rn.set_other (p := ⟨w6.heap.size, 0, none⟩) (by dsimp only; omega) (.slice a5 (limbs QQ).length c5)
    replace rq := rq.set_other (p := ⟨w6.heap.size, 0, none⟩) (by dsimp only; omega) (.slice a5 (limbs QQ).length c5)
    replace rm := rm.set_other (p := ⟨w6.heap.size, 0, none⟩) (by dsimp only; omega) (.slice a5 (limbs QQ).length c5)
    replace rs := rs.set_other (p := ⟨w6.heap.size, 0, none⟩) (by dsimp only; omega) (.slice a5 (limbs QQ).length c5)
    replace r4 := r4.set_other (p := ⟨w6.heap.size, 0, none⟩) (by dsimp only; omega) (.slice a5 (limbs QQ).length c5)
    replace r5 := r5.set_other (p := ⟨w6.heap.size, 0, none⟩) (by dsimp only; omega) (.slice a5 (limbs QQ).length c5)
    replace p0 := cell_aside (.slice a5 (limbs QQ).length c5) (r := ⟨w6.heap.size, 0, none⟩) (by dsimp only; omega) p0
    replace p1 := cell_aside (.slice a5 (limbs QQ).length c5) (r := ⟨w6.heap.size, 0, none⟩) (by dsimp only; omega) p1
    replace p2 := cell_aside (.slice a5 (limbs QQ).length c5) (r := ⟨w6.heap.size, 0, none⟩) (by dsimp only; omega) p2
    replace q0 := cell_aside (.slice a5 (limbs QQ).length c5) (r := ⟨w6.heap.size, 0, none⟩) (by dsimp only; omega) q0
    replace q1 := cell_aside (.slice a5 (limbs QQ).length c5) (r := ⟨w6.heap.size, 0, none⟩) (by dsimp only; omega) q1
    replace q2 := cell_aside (.slice a5 (limbs QQ).length c5) (r := ⟨w6.heap.size, 0, none⟩) (by dsimp only; omega) q2
    replace N0 := cell_aside (.slice a5 (limbs QQ).length c5) (r := ⟨w6.heap.size, 0, none⟩) (by dsimp only; omega) N0
    replace qf0 : (w23.setCell ⟨w6.heap.size, 0, none⟩ (.slice a5 (limbs QQ).length c5)).frozen? _ = false := (frozen_set _ _ _ _ _).trans qf0
    replace qf1 : (w23.setCell ⟨w6.heap.size, 0, none⟩ (.slice a5 (limbs QQ).length c5)).frozen? _ = false := (frozen_set _ _ _ _ _).trans qf1
    replace qf2 : (w23.setCell ⟨w6.heap.size, 0, none⟩ (.slice a5 (limbs QQ).length c5)).frozen? _ = false := (frozen_set _ _ _ _ _).trans qf2
    replace Nf0 : (w23.setCell ⟨w6.heap.size, 0, none⟩ (.slice a5 (limbs QQ).length c5)).frozen? _ = false := (frozen_set _ _ _ _ _).trans Nf0
    replace Uf0 : (w23.setCell ⟨w6.heap.size, 0, none⟩ (.slice a5 (limbs QQ).length c5)).frozen? _ = false := (frozen_set _ _ _ _ _).trans Uf0
    replace U0 : (w23.setCell ⟨w6.heap.size, 0, none⟩ (.slice a5 (limbs QQ).length c5)).cell? ⟨w6.heap.size, 0, none⟩ = some (.slice a5 (limbs QQ).length c5) := cell_on _ _ _ _ _ U0
    replace K := hide ((unhide K).setNew (p := ⟨w6.heap.size, 0, none⟩) (by dsimp only; omega) (.slice a5 (limbs QQ).length c5))
    have zs25 : (w23.setCell ⟨w6.heap.size, 0, none⟩ (.slice a5 (limbs QQ).length c5)).heap.size = w23.heap.size := by simp [World.setCell]
    clear sS0
    generalize w23.setCell ⟨w6.heap.size, 0, none⟩ (.slice a5 (limbs QQ).length c5) = ws25 at *
    go_upto_region 17 with fail
    have hsg : (false && decide (0 < (limbs QQ).length)) = false := rfl
    have mk := make_spec false ws25 r5 lml (by omega)
    rw [hsg, hnl] at mk
    clear hsg hnl
    go_wp2_with fail
    refine (mk).mono ?_
    rintro e w26 ⟨v3, rfl, r3, k26⟩
    replace r := r.kp k26
    replace rn := rn.kp k26
    replace rq := rq.kp k26
    replace rm := rm.kp k26
    replace rs := rs.kp k26
    replace r4 := r4.kp k26
    replace r5 := r5.kp k26
    replace qf0 := k26.loose0 (zbl q0) qf0
    replace qf1 := k26.loose0 (zbl q1) qf1
    replace qf2 := k26.loose0 (zbl q2) qf2
    replace Nf0 := k26.loose0 (zbl N0) Nf0
    replace Uf0 := k26.loose0 (zbl U0) Uf0
    replace p0 := k26.cell0 p0
    replace p1 := k26.cell0 p1
    replace p2 := k26.cell0 p2
    replace q0 := k26.cell0 q0
    replace q1 := k26.cell0 q1
    replace q2 := k26.cell0 q2
    replace N0 := k26.cell0 N0
    replace U0 := k26.cell0 U0
    replace K := hide ((unhide K).trans k26)
    have z27 := k26.size
    clear k26
    clear mk
    have mk := make4_spec false (low - 3) MQ (unhide HMQ) (by omega) (by omega) w26 r3 ⟨limbs_nrm _, fun _ => len_pos_limbs pQ⟩ (by omega)
    rw [unhide HGS, unhide HGL, unhide HGE] at mk
    go_wp2_with fail
    refine (mk).mono ?_
    rintro e w28 ⟨v8, rfl, r8, k28⟩
    replace r := r.kp k28
    replace rn := rn.kp k28
    replace rq := rq.kp k28
    replace rm := rm.kp k28
    replace rs := rs.kp k28
    replace r4 := r4.kp k28
    replace r5 := r5.kp k28
    replace r3 := r3.kp k28
    replace qf0 := k28.loose0 (zbl q0) qf0
    replace qf1 := k28.loose0 (zbl q1) qf1
    replace qf2 := k28.loose0 (zbl q2) qf2
    replace Nf0 := k28.loose0 (zbl N0) Nf0
    replace Uf0 := k28.loose0 (zbl U0) Uf0
    replace p0 := k28.cell0 p0
    replace p1 := k28.cell0 p1
    replace p2 := k28.cell0 p2
    replace q0 := k28.cell0 q0
    replace q1 := k28.cell0 q1
    replace q2 := k28.cell0 q2
    replace N0 := k28.cell0 N0
    replace U0 := k28.cell0 U0
    replace K := hide ((unhide K).trans k28)
    have z29 := k28.size
    clear k28
    clear mk
    obtain ⟨a8, c8, hv⟩ := Row.form' r8
    subst hv
    have R := hide ((((r8.set_other (p := ⟨w.heap.size + 1, 0, none⟩) (.inl (by have := unhide S0; dsimp only; omega)) (.bool GS)).set_other (p := ⟨w.heap.size + 1, 1, none⟩) (.inl (by have := unhide S0; dsimp only; omega)) (.slice a8 GL.length c8)).set_other (p := ⟨w.heap.size + 1, 2, none⟩) (.inl (by have := unhide S0; dsimp only; omega)) (.int .i64 GE)).tight.wider (lo' := w.heap.size) (by have := unhide S0; omega) (Nat.le_refl _))
    have K7 := hide ((((unhide K).setNew (p := ⟨w.heap.size + 1, 0, none⟩) (by simp) (.bool GS)).setNew (p := ⟨w.heap.size + 1, 1, none⟩) (by simp) (.slice a8 GL.length c8)).setNew (p := ⟨w.heap.size + 1, 2, none⟩) (by simp) (.int .i64 GE))
    clear r rn rq rm rs r4 r5 r3 r8 K 
    go_wp2_with fail
    exact bodyPost_ret (v := .agg #[.bool GS, .slice a8 GL.length c8, .int .i64 GE]) (by simp [results, Tryz.results30, go_sem, q0, q1, q2]) rfl ⟨_, rfl, unhide R, unhide K7⟩
   ·simp only [zq1, zq2, zq3]
    rw [if_pos (by rfl)]
    refine wps1 51 (.const (.int .i64 1)) _ rfl in_l2of_r (.int .i64 1) rfl (of_spec _ 1 (by omega)) ?_
    rintro e w21 ⟨v4, rfl, r4, k21⟩
    refine ⟨_, rfl, ?_⟩
    replace r := r.kp k21
    replace rn := rn.kp k21
    replace rq := rq.kp k21
    replace rm := rm.kp k21
    replace rs := rs.kp k21
    replace qf0 := k21.loose0 (zbl q0) qf0
    replace qf1 := k21.loose0 (zbl q1) qf1
    replace qf2 := k21.loose0 (zbl q2) qf2
    replace Nf0 := k21.loose0 (zbl N0) Nf0
    replace Uf0 := k21.loose0 (zbl U0) Uf0
    replace p0 := k21.cell0 p0
    replace p1 := k21.cell0 p1
    replace p2 := k21.cell0 p2
    replace q0 := k21.cell0 q0
    replace q1 := k21.cell0 q1
    replace q2 := k21.cell0 q2
    replace N0 := k21.cell0 N0
    replace U0 := k21.cell0 U0
    replace K := hide ((unhide K).trans k21)
    have z22 := k21.size
    clear k21
    obtain ⟨a4, c4, hv⟩ := Row.form' r4
    subst hv
    clear hH
    refine hK.out _ _ ?_ (fun hH => ?_)
    ·exact trivial
    clear hK KK
    try simp only [Act.put, zq1, zq2, zq3, zq4, zq5, zq6]
    refine wpAnyH_ready (rs := [0]) (by kernel_rfl) (by simp) ?_
    refine AllReadyH.cons rfl (fun KK hK => ?_) AllReadyH.nil
    simp only [zq1, zq2, zq3]
    rw [if_pos (by rfl)]
    go_simp
    clear hH
    refine hK.out _ _ ?_ (fun hH => ?_)
    ·exact trivial
    clear hK KK
    try simp only [Act.put, zq1, zq2, zq3, zq4, zq5, zq6]
    refine wpAnyH_ready (rs := [2]) (by kernel_rfl) (by simp) ?_
    refine AllReadyH.cons rfl (fun KK hK => ?_) AllReadyH.nil
    simp only [zq1, zq2, zq3]
    rw [if_pos (by rfl)]
    refine wps2 50 (.tmp 47) (.tmp 48) _ rfl in_l2add_r (.agg #[.slice ah (limbs (QN * 2)).length ch]) (.agg #[.slice a4 (limbs (1 : Int).toNat).length c4]) rfl rfl (add_spec _ rs r4 (limbs_lim _) (limbs_lim _) (by omega) (by decide)) ?_
    rintro e w23 ⟨v5, rfl, r5, k23⟩
    refine ⟨_, rfl, ?_⟩
    replace r := r.kp k23
    replace rn := rn.kp k23
    replace rq := rq.kp k23
    replace rm := rm.kp k23
    replace rs := rs.kp k23
    replace r4 := r4.kp k23
    replace qf0 := k23.loose0 (zbl q0) qf0
    replace qf1 := k23.loose0 (zbl q1) qf1
    replace qf2 := k23.loose0 (zbl q2) qf2
    replace Nf0 := k23.loose0 (zbl N0) Nf0
    replace Uf0 := k23.loose0 (zbl U0) Uf0
    replace p0 := k23.cell0 p0
    replace p1 := k23.cell0 p1
    replace p2 := k23.cell0 p2
    replace q0 := k23.cell0 q0
    replace q1 := k23.cell0 q1
    replace q2 := k23.cell0 q2
    replace N0 := k23.cell0 N0
    replace U0 := k23.cell0 U0
    replace K := hide ((unhide K).trans k23)
    have z24 := k23.size
    clear k23
    rw [eS] at r5
    clear hH
    refine hK.out _ _ ?_ (fun hH => ?_)
    ·exact trivial
    clear hK KK
    try simp only [Act.put, zq1, zq2, zq3, zq4, zq5, zq6]
    obtain ⟨a5, c5, hv⟩ := Row.form' r5
    subst hv
    refine wpAnyH_ready (rs := [3]) (by kernel_rfl) (by simp) ?_
    refine AllReadyH.cons rfl (fun KK hK => ?_) AllReadyH.nil
    simp only [zq1, zq2, zq3]
    rw [if_pos (by rfl)]
    go_simp
    clear hH
    refine hK.out _ _ ?_ (fun hH => ?_)
    ·trivial
    clear hK KK
    try simp only [Act.put, zq1, zq2, zq3, zq4, zq5, zq6]
    refine wpAnyH_done (by kernel_rfl) ?_ _
    clear hH
    try go_simp
    have sS0 := unhide S0
    replace r := r.set_other (p := ⟨w6.heap.size, 0, none⟩) (by dsimp only; omega) (.slice a5 (limbs QQ).length c5)
    replace rn := rn.set_other (p := ⟨w6.heap.size, 0, none⟩) (by dsimp only; omega) (.slice a5 (limbs QQ).length c5)
    replace rq := rq.set_other (p := ⟨w6.heap.size, 0, none⟩) (by dsimp only; omega) (.slice a5 (limbs QQ).length c5)
    replace rm := rm.set_other (p := ⟨w6.heap.size, 0, none⟩) (by dsimp only; omega) (.slice a5 (limbs QQ).length c5)
    replace rs := rs.set_other (p := ⟨w6.heap.size, 0, none⟩) (by dsimp only; omega) (.slice a5 (limbs QQ).length c5)
    replace r4 := r4.set_other (p := ⟨w6.heap.size, 0, none⟩) (by dsimp only; omega) (.slice a5 (limbs QQ).length c5)
    replace r5 := r5.set_other (p := ⟨w6.heap.size, 0, none⟩) (by dsimp only; omega) (.slice a5 (limbs QQ).length c5)
    replace p0 := cell_aside (.slice a5 (limbs QQ).length c5) (r := ⟨w6.heap.size, 0, none⟩) (by dsimp only; omega) p0
    replace p1 := cell_aside (.slice a5 (limbs QQ).length c5) (r := ⟨w6.heap.size, 0, none⟩) (by dsimp only; omega) p1
    replace p2 := cell_aside (.slice a5 (limbs QQ).length c5) (r := ⟨w6.heap.size, 0, none⟩) (by dsimp only; omega) p2
    replace q0 := cell_aside (.slice a5 (limbs QQ).length c5) (r := ⟨w6.heap.size, 0, none⟩) (by dsimp only; omega) q0
    replace q1 := cell_aside (.slice a5 (limbs QQ).length c5) (r := ⟨w6.heap.size, 0, none⟩) (by dsimp only; omega) q1
    replace q2 := cell_aside (.slice a5 (limbs QQ).length c5) (r := ⟨w6.heap.size, 0, none⟩) (by dsimp only; omega) q2
    replace N0 := cell_aside (.slice a5 (limbs QQ).length c5) (r := ⟨w6.heap.size, 0, none⟩) (by dsimp only; omega) N0
    replace qf0 : (w23.setCell ⟨w6.heap.size, 0, none⟩ (.slice a5 (limbs QQ).length c5)).frozen? _ = false := (frozen_set _ _ _ _ _).trans qf0
    replace qf1 : (w23.setCell ⟨w6.heap.size, 0, none⟩ (.slice a5 (limbs QQ).length c5)).frozen? _ = false := (frozen_set _ _ _ _ _).trans qf1
    replace qf2 : (w23.setCell ⟨w6.heap.size, 0, none⟩ (.slice a5 (limbs QQ).length c5)).frozen? _ = false := (frozen_set _ _ _ _ _).trans qf2
    replace Nf0 : (w23.setCell ⟨w6.heap.size, 0, none⟩ (.slice a5 (limbs QQ).length c5)).frozen? _ = false := (frozen_set _ _ _ _ _).trans Nf0
    replace Uf0 : (w23.setCell ⟨w6.heap.size, 0, none⟩ (.slice a5 (limbs QQ).length c5)).frozen? _ = false := (frozen_set _ _ _ _ _).trans Uf0
    replace U0 : (w23.setCell ⟨w6.heap.size, 0, none⟩ (.slice a5 (limbs QQ).length c5)).cell? ⟨w6.heap.size, 0, none⟩ = some (.slice a5 (limbs QQ).length c5) := cell_on _ _ _ _ _ U0
    replace K := hide ((unhide K).setNew (p := ⟨w6.heap.size, 0, none⟩) (by dsimp only; omega) (.slice a5 (limbs QQ).length c5))
    have zs25 : (w23.setCell ⟨w6.heap.size, 0, none⟩ (.slice a5 (limbs QQ).length c5)).heap.size = w23.heap.size := by simp [World.setCell]
    clear sS0
    generalize w23.setCell ⟨w6.heap.size, 0, none⟩ (.slice a5 (limbs QQ).length c5) = ws25 at *
    go_upto_region 17 with fail
    have hsg : (false && decide (0 < (limbs QQ).length)) = false := rfl
    have mk := make_spec false ws25 r5 lml (by omega)
    rw [hsg, hnl] at mk
    clear hsg hnl
    go_wp2_with fail
    refine (mk).mono ?_
    rintro e w26 ⟨v3, rfl, r3, k26⟩
    replace r := r.kp k26
    replace rn := rn.kp k26
    replace rq := rq.kp k26
    replace rm := rm.kp k26
    replace rs := rs.kp k26
    replace r4 := r4.kp k26
    replace r5 := r5.kp k26
    replace qf0 := k26.loose0 (zbl q0) qf0
    replace qf1 := k26.loose0 (zbl q1) qf1
    replace qf2 := k26.loose0 (zbl q2) qf2
    replace Nf0 := k26.loose0 (zbl N0) Nf0
    replace Uf0 := k26.loose0 (zbl U0) Uf0
    replace p0 := k26.cell0 p0
    replace p1 := k26.cell0 p1
    replace p2 := k26.cell0 p2
    replace q0 := k26.cell0 q0
    replace q1 := k26.cell0 q1
    replace q2 := k26.cell0 q2
    replace N0 := k26.cell0 N0
    replace U0 := k26.cell0 U0
    replace K := hide ((unhide K).trans k26)
    have z27 := k26.size
    clear k26
    clear mk
    have mk := make4_spec false (low - 3) MQ (unhide HMQ) (by omega) (by omega) w26 r3 ⟨limbs_nrm _, fun _ => len_pos_limbs pQ⟩ (by omega)
    rw [unhide HGS, unhide HGL, unhide HGE] at mk
    go_wp2_with fail
    refine (mk).mono ?_
    rintro e w28 ⟨v8, rfl, r8, k28⟩
    replace r := r.kp k28
    replace rn := rn.kp k28
    replace rq := rq.kp k28
    replace rm := rm.kp k28
    replace rs := rs.kp k28
    replace r4 := r4.kp k28
    replace r5 := r5.kp k28
    replace r3 := r3.kp k28
    replace qf0 := k28.loose0 (zbl q0) qf0
    replace qf1 := k28.loose0 (zbl q1) qf1
    replace qf2 := k28.loose0 (zbl q2) qf2
    replace Nf0 := k28.loose0 (zbl N0) Nf0
    replace Uf0 := k28.loose0 (zbl U0) Uf0
    replace p0 := k28.cell0 p0
    replace p1 := k28.cell0 p1
    replace p2 := k28.cell0 p2
    replace q0 := k28.cell0 q0
    replace q1 := k28.cell0 q1
    replace q2 := k28.cell0 q2
    replace N0 := k28.cell0 N0
    replace U0 := k28.cell0 U0
    replace K := hide ((unhide K).trans k28)
    have z29 := k28.size
    clear k28
    clear mk
    obtain ⟨a8, c8, hv⟩ := Row.form' r8
    subst hv
    have R := hide ((((r8.set_other (p := ⟨w.heap.size + 1, 0, none⟩) (.inl (by have := unhide S0; dsimp only; omega)) (.bool GS)).set_other (p := ⟨w.heap.size + 1, 1, none⟩) (.inl (by have := unhide S0; dsimp only; omega)) (.slice a8 GL.length c8)).set_other (p := ⟨w.heap.size + 1, 2, none⟩) (.inl (by have := unhide S0; dsimp only; omega)) (.int .i64 GE)).tight.wider (lo' := w.heap.size) (by have := unhide S0; omega) (Nat.le_refl _))
    have K7 := hide ((((unhide K).setNew (p := ⟨w.heap.size + 1, 0, none⟩) (by simp) (.bool GS)).setNew (p := ⟨w.heap.size + 1, 1, none⟩) (by simp) (.slice a8 GL.length c8)).setNew (p := ⟨w.heap.size + 1, 2, none⟩) (by simp) (.int .i64 GE))
    clear r rn rq rm rs r4 r5 r3 r8 K 
    go_wp2_with fail
    exact bodyPost_ret (v := .agg #[.bool GS, .slice a8 GL.length c8, .int .i64 GE]) (by simp [results, Tryz.results30, go_sem, q0, q1, q2]) rfl ⟨_, rfl, unhide R, unhide K7⟩
  ·have hci : cmpI (val (limbs (QN * QN))) (val (limbs NV)) = -1 := by rw [limbs_val, limbs_val]; exact cmpI_lt (by omega)
   have hq2 : QQ = QN * 2 + 1 := by rw [unhide EQQ, decide_eq_true hc, Bool.or_true, if_pos rfl]; omega
   clear hc hQle
   have hmv : limbs (val (limbs QN) * val (limbs QN)).toNat = limbs (QN * QN) := by rw [limbs_val, ← Int.natCast_mul, Int.toNat_natCast]
   have HCI := hide hci
   clear hci
   have kd := (Kept.refl 0 0 wm8).drew
   replace r := r.kp kd
   replace rn := rn.kp kd
   replace rq := rq.kp kd
   replace qf0 := kd.loose0 (zbl q0) qf0
   replace qf1 := kd.loose0 (zbl q1) qf1
   replace qf2 := kd.loose0 (zbl q2) qf2
   replace Nf0 := kd.loose0 (zbl N0) Nf0
   replace Uf0 := kd.loose0 (zbl U0) Uf0
   replace p0 := kd.cell0 p0
   replace p1 := kd.cell0 p1
   replace p2 := kd.cell0 p2
   replace q0 := kd.cell0 q0
   replace q1 := kd.cell0 q1
   replace q2 := kd.cell0 q2
   replace N0 := kd.cell0 N0
   replace U0 := kd.cell0 U0
   replace K := hide ((unhide K).trans kd)
   have z10 := kd.size
   clear kd
   refine wp_region_held_drew (S := (fun w' => w'.cell? ⟨w6.heap.size, 0, none⟩ = some (.slice aq (limbs QN).length cq) ∧ w'.cell? ⟨W.heap.size, 0, none⟩ = some (.slice an (limbs NV).length cn))) (by kernel_rfl) ?_ (fun hH => ?_)
   ·exact ⟨U0, N0⟩
   generalize wm8.drew = wd11 at *
   refine wpAnyH_take (i := 0) (v := .agg #[.slice aq (limbs QN).length cq]) rfl (by kernel_rfl) (by kernel_rfl) (by kernel_rfl) (fun _ _ _ h => h) (Or.inl ⟨by rfl, ?_⟩) hH ?_
   ·intro wq hSw
    try dsimp only at hSw
    go_simp
   try simp only [Act.put, zq1, zq2, zq3, zq4, zq5, zq6]
   refine wpAnyH_take (i := 1) (v := .agg #[.slice aq (limbs QN).length cq]) rfl (by kernel_rfl) (by kernel_rfl) (by kernel_rfl) (fun _ _ _ h => h) (Or.inl ⟨by rfl, ?_⟩) hH ?_
   ·intro wq hSw
    try dsimp only at hSw
    go_simp
   try simp only [Act.put, zq1, zq2, zq3, zq4, zq5, zq6]
   refine wpAnyH_take (i := 3) (v := .agg #[.slice an (limbs NV).length cn]) rfl (by kernel_rfl) (by kernel_rfl) (by kernel_rfl) (fun _ _ _ h => h) (Or.inl ⟨by rfl, ?_⟩) hH ?_
   ·intro wq hSw
    try dsimp only at hSw
    go_simp
   try simp only [Act.put, zq1, zq2, zq3, zq4, zq5, zq6]
   refine wpAnyH_ready (rs := [2]) (by kernel_rfl) (by simp) ?_
   refine AllReadyH.cons rfl (fun KK hK => ?_) AllReadyH.nil
   simp only [zq1, zq2, zq3]
   rw [if_pos (by rfl)]
   refine wps2 56 (.tmp 38) (.tmp 39) _ rfl in_l2mul_q (.agg #[.slice aq (limbs QN).length cq]) (.agg #[.slice aq (limbs QN).length cq]) rfl rfl (mul_spec _ rq rq (limbs_lim _) (limbs_lim _) (by omega) (by omega)) ?_
   rintro e w12 ⟨vm, rfl, rm, k12⟩
   refine ⟨_, rfl, ?_⟩
   replace r := r.kp k12
   replace rn := rn.kp k12
   replace rq := rq.kp k12
   replace qf0 := k12.loose0 (zbl q0) qf0
   replace qf1 := k12.loose0 (zbl q1) qf1
   replace qf2 := k12.loose0 (zbl q2) qf2
   replace Nf0 := k12.loose0 (zbl N0) Nf0
   replace Uf0 := k12.loose0 (zbl U0) Uf0
   replace p0 := k12.cell0 p0
   replace p1 := k12.cell0 p1
   replace p2 := k12.cell0 p2
   replace q0 := k12.cell0 q0
   replace q1 := k12.cell0 q1
   replace q2 := k12.cell0 q2
   replace N0 := k12.cell0 N0
   replace U0 := k12.cell0 U0
   replace K := hide ((unhide K).trans k12)
   have z13 := k12.size
   clear k12
   rw [hmv] at rm
   clear hmv
   obtain ⟨am, cm, hv⟩ := Row.form' rm
   subst hv
   clear hH
   refine hK.out _ _ ?_ (fun hH => ?_)
   ·exact ⟨U0, N0⟩
   clear hK KK
   try simp only [Act.put, zq1, zq2, zq3, zq4, zq5, zq6]
   refine wpAnyH_ready (rs := [4]) (by kernel_rfl) (by simp) ?_
   refine AllReadyH.cons rfl (fun KK hK => ?_) AllReadyH.nil
   simp only [zq1, zq2, zq3]
   rw [if_pos (by rfl)]
   refine wps2 55 (.tmp 40) (.tmp 41) _ rfl in_l2cmp_q (.agg #[.slice am (limbs (QN * QN)).length cm]) (.agg #[.slice an (limbs NV).length cn]) rfl rfl (Calls.mono (cmp_spec _ rm rn (limbs_nrm _) (limbs_nrm _)) (fun e w' h => (show e = .returned (.int .i64 (-1)) ∧ Kept 0 0 _ w' from ⟨by rw [h.1, unhide HCI], h.2⟩))) ?_
   rintro e w14 ⟨rfl, k14⟩
   refine ⟨_, rfl, ?_⟩
   replace r := r.kp k14
   replace rn := rn.kp k14
   replace rq := rq.kp k14
   replace rm := rm.kp k14
   replace qf0 := k14.loose0 (zbl q0) qf0
   replace qf1 := k14.loose0 (zbl q1) qf1
   replace qf2 := k14.loose0 (zbl q2) qf2
   replace Nf0 := k14.loose0 (zbl N0) Nf0
   replace Uf0 := k14.loose0 (zbl U0) Uf0
   replace p0 := k14.cell0 p0
   replace p1 := k14.cell0 p1
   replace p2 := k14.cell0 p2
   replace q0 := k14.cell0 q0
   replace q1 := k14.cell0 q1
   replace q2 := k14.cell0 q2
   replace N0 := k14.cell0 N0
   replace U0 := k14.cell0 U0
   replace K := hide ((unhide K).trans k14)
   have z15 := k14.size
   clear k14
   clear hH
   refine hK.out _ _ ?_ (fun hH => ?_)
   ·exact ⟨U0, N0⟩
   clear hK KK
   try simp only [Act.put, zq1, zq2, zq3, zq4, zq5, zq6]
   refine wpAnyH_take (i := 5) (v := .bool true) rfl (by kernel_rfl) (by kernel_rfl) (by kernel_rfl) (fun _ _ _ h => h) (Or.inl ⟨by rfl, ?_⟩) hH ?_
   ·intro wq hSw
    try dsimp only at hSw
    go_simp
   try simp only [Act.put, zq1, zq2, zq3, zq4, zq5, zq6]
   refine wpAnyH_done (by kernel_rfl) ?_ _
   clear hH
   go_upto_region 14 with fail
   have mk := shl_spec w14 rq (limbs_lim _) (by omega) 1 (.inr (by omega)) (by omega)
   rw [limbs_val, Int.toNat_natCast, Nat.pow_one] at mk
   go_wp2_with fail
   refine (mk).mono ?_
   rintro e w16 ⟨vs, rfl, rs, k16⟩
   replace r := r.kp k16
   replace rn := rn.kp k16
   replace rq := rq.kp k16
   replace rm := rm.kp k16
   replace qf0 := k16.loose0 (zbl q0) qf0
   replace qf1 := k16.loose0 (zbl q1) qf1
   replace qf2 := k16.loose0 (zbl q2) qf2
   replace Nf0 := k16.loose0 (zbl N0) Nf0
   replace Uf0 := k16.loose0 (zbl U0) Uf0
   replace p0 := k16.cell0 p0
   replace p1 := k16.cell0 p1
   replace p2 := k16.cell0 p2
   replace q0 := k16.cell0 q0
   replace q1 := k16.cell0 q1
   replace q2 := k16.cell0 q2
   replace N0 := k16.cell0 N0
   replace U0 := k16.cell0 U0
   replace K := hide ((unhide K).trans k16)
   have z17 := k16.size
   clear k16
   clear mk
   obtain ⟨ah, ch, hv⟩ := Row.form' rs
   subst hv
   go_upto_region 15 with fail
   have sS0 := unhide S0
   replace r := r.set_other (p := ⟨w6.heap.size, 0, none⟩) (by dsimp only; omega) (.slice ah (limbs (QN * 2)).length ch)
   replace rn := rn.set_other (p := ⟨w6.heap.size, 0, none⟩) (by dsimp only; omega) (.slice ah (limbs (QN * 2)).length ch)
   replace rq := rq.set_other (p := ⟨w6.heap.size, 0, none⟩) (by dsimp only; omega) (.slice ah (limbs (QN * 2)).length ch)
   replace rm := rm.set_other (p := ⟨w6.heap.size, 0, none⟩) (by dsimp only; omega) (.slice ah (limbs (QN * 2)).length ch)
   replace rs := rs.set_other (p := ⟨w6.heap.size, 0, none⟩) (by dsimp only; omega) (.slice ah (limbs (QN * 2)).length ch)
   replace p0 := cell_aside (.slice ah (limbs (QN * 2)).length ch) (r := ⟨w6.heap.size, 0, none⟩) (by dsimp only; omega) p0
   replace p1 := cell_aside (.slice ah (limbs (QN * 2)).length ch) (r := ⟨w6.heap.size, 0, none⟩) (by dsimp only; omega) p1
   replace p2 := cell_aside (.slice ah (limbs (QN * 2)).length ch) (r := ⟨w6.heap.size, 0, none⟩) (by dsimp only; omega) p2
   replace q0 := cell_aside (.slice ah (limbs (QN * 2)).length ch) (r := ⟨w6.heap.size, 0, none⟩) (by dsimp only; omega) q0
   replace q1 := cell_aside (.slice ah (limbs (QN * 2)).length ch) (r := ⟨w6.heap.size, 0, none⟩) (by dsimp only; omega) q1
   replace q2 := cell_aside (.slice ah (limbs (QN * 2)).length ch) (r := ⟨w6.heap.size, 0, none⟩) (by dsimp only; omega) q2
   replace N0 := cell_aside (.slice ah (limbs (QN * 2)).length ch) (r := ⟨w6.heap.size, 0, none⟩) (by dsimp only; omega) N0
   replace qf0 : (w16.setCell ⟨w6.heap.size, 0, none⟩ (.slice ah (limbs (QN * 2)).length ch)).frozen? _ = false := (frozen_set _ _ _ _ _).trans qf0
   replace qf1 : (w16.setCell ⟨w6.heap.size, 0, none⟩ (.slice ah (limbs (QN * 2)).length ch)).frozen? _ = false := (frozen_set _ _ _ _ _).trans qf1
   replace qf2 : (w16.setCell ⟨w6.heap.size, 0, none⟩ (.slice ah (limbs (QN * 2)).length ch)).frozen? _ = false := (frozen_set _ _ _ _ _).trans qf2
   replace Nf0 : (w16.setCell ⟨w6.heap.size, 0, none⟩ (.slice ah (limbs (QN * 2)).length ch)).frozen? _ = false := (frozen_set _ _ _ _ _).trans Nf0
   replace Uf0 : (w16.setCell ⟨w6.heap.size, 0, none⟩ (.slice ah (limbs (QN * 2)).length ch)).frozen? _ = false := (frozen_set _ _ _ _ _).trans Uf0
   replace U0 : (w16.setCell ⟨w6.heap.size, 0, none⟩ (.slice ah (limbs (QN * 2)).length ch)).cell? ⟨w6.heap.size, 0, none⟩ = some (.slice ah (limbs (QN * 2)).length ch) := cell_on _ _ _ _ _ U0
   replace K := hide ((unhide K).setNew (p := ⟨w6.heap.size, 0, none⟩) (by dsimp only; omega) (.slice ah (limbs (QN * 2)).length ch))
   have zs18 : (w16.setCell ⟨w6.heap.size, 0, none⟩ (.slice ah (limbs (QN * 2)).length ch)).heap.size = w16.heap.size := by simp [World.setCell]
   clear sS0
   generalize w16.setCell ⟨w6.heap.size, 0, none⟩ (.slice ah (limbs (QN * 2)).length ch) = ws18 at *
   have eS : (val (limbs (QN * 2)) + val (limbs (1 : Int).toNat)).toNat = QQ := by rw [limbs_val, limbs_val, hq2]; omega
   have hnl : limbs (val (limbs QQ)).toNat = limbs QQ := by rw [limbs_val, Int.toNat_natCast]
   have lml : Lim (limbs QQ) := limbs_lim _
   clear hq2
   go_upto_region 16 with fail
   have kd := (Kept.refl 0 0 ws18).drew
   replace r := r.kp kd
   replace rn := rn.kp kd
   replace rq := rq.kp kd
   replace rm := rm.kp kd
   replace rs := rs.kp kd
   replace qf0 := kd.loose0 (zbl q0) qf0
   replace qf1 := kd.loose0 (zbl q1) qf1
   replace qf2 := kd.loose0 (zbl q2) qf2
   replace Nf0 := kd.loose0 (zbl N0) Nf0
   replace Uf0 := kd.loose0 (zbl U0) Uf0
   replace p0 := kd.cell0 p0
   replace p1 := kd.cell0 p1
   replace p2 := kd.cell0 p2
   replace q0 := kd.cell0 q0
   replace q1 := kd.cell0 q1
   replace q2 := kd.cell0 q2
   replace N0 := kd.cell0 N0
   replace U0 := kd.cell0 U0
   replace K := hide ((unhide K).trans kd)
   have z19 := kd.size
   clear kd
   refine wp_region_held_drew (S := (fun w' => True)) (by kernel_rfl) ?_ (fun hH => ?_)
   ·exact trivial
   generalize ws18.drew = wd20 at *
   refine wpAnyH_ready (rs := [0, 1]) (by kernel_rfl) (by simp) ?_
   refine AllReadyH.cons rfl (fun KK hK => ?_) (AllReadyH.cons rfl (fun KK hK => ?_) AllReadyH.nil)
   ·simp only [zq1, zq2, zq3]
    rw [if_pos (by rfl)]
    go_simp
    clear hH
    refine hK.out _ _ ?_ (fun hH => ?_)
    ·exact trivial
    clear hK KK
    try simp only [Act.put, zq1, zq2, zq3, zq4, zq5, zq6]
    refine wpAnyH_ready (rs := [1]) (by kernel_rfl) (by simp) ?_
    refine AllReadyH.cons rfl (fun KK hK => ?_) AllReadyH.nil
    simp only [zq1, zq2, zq3]
    rw [if_pos (by rfl)]
    refine wps1 51 (.const (.int .i64 1)) _ rfl in_l2of_r (.int .i64 1) rfl (of_spec _ 1 (by omega)) ?_
    rintro e w21 ⟨v4, rfl, r4, k21⟩
    refine ⟨_, rfl, ?_⟩
    replace r := r.kp k21
    replace rn := rn.kp k21
    replace rq := rq.kp k21
    replace rm := rm.kp k21
    replace rs := rs.kp k21
    replace qf0 := k21.loose0 (zbl q0) qf0
    replace qf1 := k21.loose0 (zbl q1) qf1
    replace qf2 := k21.loose0 (zbl q2) qf2
    replace Nf0 := k21.loose0 (zbl N0) Nf0
    replace Uf0 := k21.loose0 (zbl U0) Uf0
    replace p0 := k21.cell0 p0
    replace p1 := k21.cell0 p1
    replace p2 := k21.cell0 p2
    replace q0 := k21.cell0 q0
    replace q1 := k21.cell0 q1
    replace q2 := k21.cell0 q2
    replace N0 := k21.cell0 N0
    replace U0 := k21.cell0 U0
    replace K := hide ((unhide K).trans k21)
    have z22 := k21.size
    clear k21
    obtain ⟨a4, c4, hv⟩ := Row.form' r4
    subst hv
    clear hH
    refine hK.out _ _ ?_ (fun hH => ?_)
    ·exact trivial
    clear hK KK
    try simp only [Act.put, zq1, zq2, zq3, zq4, zq5, zq6]
    refine wpAnyH_ready (rs := [2]) (by kernel_rfl) (by simp) ?_
    refine AllReadyH.cons rfl (fun KK hK => ?_) AllReadyH.nil
    simp only [zq1, zq2, zq3]
    rw [if_pos (by rfl)]
    refine wps2 50 (.tmp 47) (.tmp 48) _ rfl in_l2add_r (.agg #[.slice ah (limbs (QN * 2)).length ch]) (.agg #[.slice a4 (limbs (1 : Int).toNat).length c4]) rfl rfl (add_spec _ rs r4 (limbs_lim _) (limbs_lim _) (by omega) (by decide)) ?_
    rintro e w23 ⟨v5, rfl, r5, k23⟩
    refine ⟨_, rfl, ?_⟩
    replace r := r.kp k23
    replace rn := rn.kp k23
    replace rq := rq.kp k23
    replace rm := rm.kp k23
    replace rs := rs.kp k23
    replace r4 := r4.kp k23
    replace qf0 := k23.loose0 (zbl q0) qf0
    replace qf1 := k23.loose0 (zbl q1) qf1
    replace qf2 := k23.loose0 (zbl q2) qf2
    replace Nf0 := k23.loose0 (zbl N0) Nf0
    replace Uf0 := k23.loose0 (zbl U0) Uf0
    replace p0 := k23.cell0 p0
    replace p1 := k23.cell0 p1
    replace p2 := k23.cell0 p2
    replace q0 := k23.cell0 q0
    replace q1 := k23.cell0 q1
    replace q2 := k23.cell0 q2
    replace N0 := k23.cell0 N0
    replace U0 := k23.cell0 U0
    replace K := hide ((unhide K).trans k23)
    have z24 := k23.size
    clear k23
    rw [eS] at r5
    clear hH
    refine hK.out _ _ ?_ (fun hH => ?_)
    ·exact trivial
    clear hK KK
    try simp only [Act.put, zq1, zq2, zq3, zq4, zq5, zq6]
    obtain ⟨a5, c5, hv⟩ := Row.form' r5
    subst hv
    refine wpAnyH_ready (rs := [3]) (by kernel_rfl) (by simp) ?_
    refine AllReadyH.cons rfl (fun KK hK => ?_) AllReadyH.nil
    simp only [zq1, zq2, zq3]
    rw [if_pos (by rfl)]
    go_simp
    clear hH
    refine hK.out _ _ ?_ (fun hH => ?_)
    ·trivial
    clear hK KK
    try simp only [Act.put, zq1, zq2, zq3, zq4, zq5, zq6]
    refine wpAnyH_done (by kernel_rfl) ?_ _
    clear hH
    try go_simp
    have sS0 := unhide S0
    replace r := r.set_other (p := ⟨w6.heap.size, 0, none⟩) (by dsimp only; omega) (.slice a5 (limbs QQ).length c5)
    replace rn := rn.set_other (p := ⟨w6.heap.size, 0, none⟩) (by dsimp only; omega) (.slice a5 (limbs QQ).length c5)
    replace rq := rq.set_other (p := ⟨w6.heap.size, 0, none⟩) (by dsimp only; omega) (.slice a5 (limbs QQ).length c5)
    replace rm := rm.set_other (p := ⟨w6.heap.size, 0, none⟩) (by dsimp only; omega) (.slice a5 (limbs QQ).length c5)
    replace rs := rs.set_other (p := ⟨w6.heap.size, 0, none⟩) (by dsimp only; omega) (.slice a5 (limbs QQ).length c5)
    replace r4 := r4.set_other (p := ⟨w6.heap.size, 0, none⟩) (by dsimp only; omega) (.slice a5 (limbs QQ).length c5)
    replace r5 := r5.set_other (p := ⟨w6.heap.size, 0, none⟩) (by dsimp only; omega) (.slice a5 (limbs QQ).length c5)
    replace p0 := cell_aside (.slice a5 (limbs QQ).length c5) (r := ⟨w6.heap.size, 0, none⟩) (by dsimp only; omega) p0
    replace p1 := cell_aside (.slice a5 (limbs QQ).length c5) (r := ⟨w6.heap.size, 0, none⟩) (by dsimp only; omega) p1
    replace p2 := cell_aside (.slice a5 (limbs QQ).length c5) (r := ⟨w6.heap.size, 0, none⟩) (by dsimp only; omega) p2
    replace q0 := cell_aside (.slice a5 (limbs QQ).length c5) (r := ⟨w6.heap.size, 0, none⟩) (by dsimp only; omega) q0
    replace q1 := cell_aside (.slice a5 (limbs QQ).length c5) (r := ⟨w6.heap.size, 0, none⟩) (by dsimp only; omega) q1
    replace q2 := cell_aside (.slice a5 (limbs QQ).length c5) (r := ⟨w6.heap.size, 0, none⟩) (by dsimp only; omega) q2
    replace N0 := cell_aside (.slice a5 (limbs QQ).length c5) (r := ⟨w6.heap.size, 0, none⟩) (by dsimp only; omega) N0
    replace qf0 : (w23.setCell ⟨w6.heap.size, 0, none⟩ (.slice a5 (limbs QQ).length c5)).frozen? _ = false := (frozen_set _ _ _ _ _).trans qf0
    replace qf1 : (w23.setCell ⟨w6.heap.size, 0, none⟩ (.slice a5 (limbs QQ).length c5)).frozen? _ = false := (frozen_set _ _ _ _ _).trans qf1
    replace qf2 : (w23.setCell ⟨w6.heap.size, 0, none⟩ (.slice a5 (limbs QQ).length c5)).frozen? _ = false := (frozen_set _ _ _ _ _).trans qf2
    replace Nf0 : (w23.setCell ⟨w6.heap.size, 0, none⟩ (.slice a5 (limbs QQ).length c5)).frozen? _ = false := (frozen_set _ _ _ _ _).trans Nf0
    replace Uf0 : (w23.setCell ⟨w6.heap.size, 0, none⟩ (.slice a5 (limbs QQ).length c5)).frozen? _ = false := (frozen_set _ _ _ _ _).trans Uf0
    replace U0 : (w23.setCell ⟨w6.heap.size, 0, none⟩ (.slice a5 (limbs QQ).length c5)).cell? ⟨w6.heap.size, 0, none⟩ = some (.slice a5 (limbs QQ).length c5) := cell_on _ _ _ _ _ U0
    replace K := hide ((unhide K).setNew (p := ⟨w6.heap.size, 0, none⟩) (by dsimp only; omega) (.slice a5 (limbs QQ).length c5))
    have zs25 : (w23.setCell ⟨w6.heap.size, 0, none⟩ (.slice a5 (limbs QQ).length c5)).heap.size = w23.heap.size := by simp [World.setCell]
    clear sS0
    generalize w23.setCell ⟨w6.heap.size, 0, none⟩ (.slice a5 (limbs QQ).length c5) = ws25 at *
    go_upto_region 17 with fail
    have hsg : (false && decide (0 < (limbs QQ).length)) = false := rfl
    have mk := make_spec false ws25 r5 lml (by omega)
    rw [hsg, hnl] at mk
    clear hsg hnl
    go_wp2_with fail
    refine (mk).mono ?_
    rintro e w26 ⟨v3, rfl, r3, k26⟩
    replace r := r.kp k26
    replace rn := rn.kp k26
    replace rq := rq.kp k26
    replace rm := rm.kp k26
    replace rs := rs.kp k26
    replace r4 := r4.kp k26
    replace r5 := r5.kp k26
    replace qf0 := k26.loose0 (zbl q0) qf0
    replace qf1 := k26.loose0 (zbl q1) qf1
    replace qf2 := k26.loose0 (zbl q2) qf2
    replace Nf0 := k26.loose0 (zbl N0) Nf0
    replace Uf0 := k26.loose0 (zbl U0) Uf0
    replace p0 := k26.cell0 p0
    replace p1 := k26.cell0 p1
    replace p2 := k26.cell0 p2
    replace q0 := k26.cell0 q0
    replace q1 := k26.cell0 q1
    replace q2 := k26.cell0 q2
    replace N0 := k26.cell0 N0
    replace U0 := k26.cell0 U0
    replace K := hide ((unhide K).trans k26)
    have z27 := k26.size
    clear k26
    clear mk
    have mk := make4_spec false (low - 3) MQ (unhide HMQ) (by omega) (by omega) w26 r3 ⟨limbs_nrm _, fun _ => len_pos_limbs pQ⟩ (by omega)
    rw [unhide HGS, unhide HGL, unhide HGE] at mk
    go_wp2_with fail
    refine (mk).mono ?_
    rintro e w28 ⟨v8, rfl, r8, k28⟩
    replace r := r.kp k28
    replace rn := rn.kp k28
    replace rq := rq.kp k28
    replace rm := rm.kp k28
    replace rs := rs.kp k28
    replace r4 := r4.kp k28
    replace r5 := r5.kp k28
    replace r3 := r3.kp k28
    replace qf0 := k28.loose0 (zbl q0) qf0
    replace qf1 := k28.loose0 (zbl q1) qf1
    replace qf2 := k28.loose0 (zbl q2) qf2
    replace Nf0 := k28.loose0 (zbl N0) Nf0
    replace Uf0 := k28.loose0 (zbl U0) Uf0
    replace p0 := k28.cell0 p0
    replace p1 := k28.cell0 p1
    replace p2 := k28.cell0 p2
    replace q0 := k28.cell0 q0
    replace q1 := k28.cell0 q1
    replace q2 := k28.cell0 q2
    replace N0 := k28.cell0 N0
    replace U0 := k28.cell0 U0
    replace K := hide ((unhide K).trans k28)
    have z29 := k28.size
    clear k28
    clear mk
    obtain ⟨a8, c8, hv⟩ := Row.form' r8
    subst hv
    have R := hide ((((r8.set_other (p := ⟨w.heap.size + 1, 0, none⟩) (.inl (by have := unhide S0; dsimp only; omega)) (.bool GS)).set_other (p := ⟨w.heap.size + 1, 1, none⟩) (.inl (by have := unhide S0; dsimp only; omega)) (.slice a8 GL.length c8)).set_other (p := ⟨w.heap.size + 1, 2, none⟩) (.inl (by have := unhide S0; dsimp only; omega)) (.int .i64 GE)).tight.wider (lo' := w.heap.size) (by have := unhide S0; omega) (Nat.le_refl _))
    have K7 := hide ((((unhide K).setNew (p := ⟨w.heap.size + 1, 0, none⟩) (by simp) (.bool GS)).setNew (p := ⟨w.heap.size + 1, 1, none⟩) (by simp) (.slice a8 GL.length c8)).setNew (p := ⟨w.heap.size + 1, 2, none⟩) (by simp) (.int .i64 GE))
    clear r rn rq rm rs r4 r5 r3 r8 K 
    go_wp2_with fail
    exact bodyPost_ret (v := .agg #[.bool GS, .slice a8 GL.length c8, .int .i64 GE]) (by simp [results, Tryz.results30, go_sem, q0, q1, q2]) rfl ⟨_, rfl, unhide R, unhide K7⟩
   ·simp only [zq1, zq2, zq3]
    rw [if_pos (by rfl)]
    refine wps1 51 (.const (.int .i64 1)) _ rfl in_l2of_r (.int .i64 1) rfl (of_spec _ 1 (by omega)) ?_
    rintro e w21 ⟨v4, rfl, r4, k21⟩
    refine ⟨_, rfl, ?_⟩
    replace r := r.kp k21
    replace rn := rn.kp k21
    replace rq := rq.kp k21
    replace rm := rm.kp k21
    replace rs := rs.kp k21
    replace qf0 := k21.loose0 (zbl q0) qf0
    replace qf1 := k21.loose0 (zbl q1) qf1
    replace qf2 := k21.loose0 (zbl q2) qf2
    replace Nf0 := k21.loose0 (zbl N0) Nf0
    replace Uf0 := k21.loose0 (zbl U0) Uf0
    replace p0 := k21.cell0 p0
    replace p1 := k21.cell0 p1
    replace p2 := k21.cell0 p2
    replace q0 := k21.cell0 q0
    replace q1 := k21.cell0 q1
    replace q2 := k21.cell0 q2
    replace N0 := k21.cell0 N0
    replace U0 := k21.cell0 U0
    replace K := hide ((unhide K).trans k21)
    have z22 := k21.size
    clear k21
    obtain ⟨a4, c4, hv⟩ := Row.form' r4
    subst hv
    clear hH
    refine hK.out _ _ ?_ (fun hH => ?_)
    ·exact trivial
    clear hK KK
    try simp only [Act.put, zq1, zq2, zq3, zq4, zq5, zq6]
    refine wpAnyH_ready (rs := [0]) (by kernel_rfl) (by simp) ?_
    refine AllReadyH.cons rfl (fun KK hK => ?_) AllReadyH.nil
    simp only [zq1, zq2, zq3]
    rw [if_pos (by rfl)]
    go_simp
    clear hH
    refine hK.out _ _ ?_ (fun hH => ?_)
    ·exact trivial
    clear hK KK
    try simp only [Act.put, zq1, zq2, zq3, zq4, zq5, zq6]
    refine wpAnyH_ready (rs := [2]) (by kernel_rfl) (by simp) ?_
    refine AllReadyH.cons rfl (fun KK hK => ?_) AllReadyH.nil
    simp only [zq1, zq2, zq3]
    rw [if_pos (by rfl)]
    refine wps2 50 (.tmp 47) (.tmp 48) _ rfl in_l2add_r (.agg #[.slice ah (limbs (QN * 2)).length ch]) (.agg #[.slice a4 (limbs (1 : Int).toNat).length c4]) rfl rfl (add_spec _ rs r4 (limbs_lim _) (limbs_lim _) (by omega) (by decide)) ?_
    rintro e w23 ⟨v5, rfl, r5, k23⟩
    refine ⟨_, rfl, ?_⟩
    replace r := r.kp k23
    replace rn := rn.kp k23
    replace rq := rq.kp k23
    replace rm := rm.kp k23
    replace rs := rs.kp k23
    replace r4 := r4.kp k23
    replace qf0 := k23.loose0 (zbl q0) qf0
    replace qf1 := k23.loose0 (zbl q1) qf1
    replace qf2 := k23.loose0 (zbl q2) qf2
    replace Nf0 := k23.loose0 (zbl N0) Nf0
    replace Uf0 := k23.loose0 (zbl U0) Uf0
    replace p0 := k23.cell0 p0
    replace p1 := k23.cell0 p1
    replace p2 := k23.cell0 p2
    replace q0 := k23.cell0 q0
    replace q1 := k23.cell0 q1
    replace q2 := k23.cell0 q2
    replace N0 := k23.cell0 N0
    replace U0 := k23.cell0 U0
    replace K := hide ((unhide K).trans k23)
    have z24 := k23.size
    clear k23
    rw [eS] at r5
    clear hH
    refine hK.out _ _ ?_ (fun hH => ?_)
    ·exact trivial
    clear hK KK
    try simp only [Act.put, zq1, zq2, zq3, zq4, zq5, zq6]
    obtain ⟨a5, c5, hv⟩ := Row.form' r5
    subst hv
    refine wpAnyH_ready (rs := [3]) (by kernel_rfl) (by simp) ?_
    refine AllReadyH.cons rfl (fun KK hK => ?_) AllReadyH.nil
    simp only [zq1, zq2, zq3]
    rw [if_pos (by rfl)]
    go_simp
    clear hH
    refine hK.out _ _ ?_ (fun hH => ?_)
    ·trivial
    clear hK KK
    try simp only [Act.put, zq1, zq2, zq3, zq4, zq5, zq6]
    refine wpAnyH_done (by kernel_rfl) ?_ _
    clear hH
    try go_simp
    have sS0 := unhide S0
    replace r := r.set_other (p := ⟨w6.heap.size, 0, none⟩) (by dsimp only; omega) (.slice a5 (limbs QQ).length c5)
    replace rn := rn.set_other (p := ⟨w6.heap.size, 0, none⟩) (by dsimp only; omega) (.slice a5 (limbs QQ).length c5)
    replace rq := rq.set_other (p := ⟨w6.heap.size, 0, none⟩) (by dsimp only; omega) (.slice a5 (limbs QQ).length c5)
    replace rm := rm.set_other (p := ⟨w6.heap.size, 0, none⟩) (by dsimp only; omega) (.slice a5 (limbs QQ).length c5)
    replace rs := rs.set_other (p := ⟨w6.heap.size, 0, none⟩) (by dsimp only; omega) (.slice a5 (limbs QQ).length c5)
    replace r4 := r4.set_other (p := ⟨w6.heap.size, 0, none⟩) (by dsimp only; omega) (.slice a5 (limbs QQ).length c5)
    replace r5 := r5.set_other (p := ⟨w6.heap.size, 0, none⟩) (by dsimp only; omega) (.slice a5 (limbs QQ).length c5)
    replace p0 := cell_aside (.slice a5 (limbs QQ).length c5) (r := ⟨w6.heap.size, 0, none⟩) (by dsimp only; omega) p0
    replace p1 := cell_aside (.slice a5 (limbs QQ).length c5) (r := ⟨w6.heap.size, 0, none⟩) (by dsimp only; omega) p1
    replace p2 := cell_aside (.slice a5 (limbs QQ).length c5) (r := ⟨w6.heap.size, 0, none⟩) (by dsimp only; omega) p2
    replace q0 := cell_aside (.slice a5 (limbs QQ).length c5) (r := ⟨w6.heap.size, 0, none⟩) (by dsimp only; omega) q0
    replace q1 := cell_aside (.slice a5 (limbs QQ).length c5) (r := ⟨w6.heap.size, 0, none⟩) (by dsimp only; omega) q1
    replace q2 := cell_aside (.slice a5 (limbs QQ).length c5) (r := ⟨w6.heap.size, 0, none⟩) (by dsimp only; omega) q2
    replace N0 := cell_aside (.slice a5 (limbs QQ).length c5) (r := ⟨w6.heap.size, 0, none⟩) (by dsimp only; omega) N0
    replace qf0 : (w23.setCell ⟨w6.heap.size, 0, none⟩ (.slice a5 (limbs QQ).length c5)).frozen? _ = false := (frozen_set _ _ _ _ _).trans qf0
    replace qf1 : (w23.setCell ⟨w6.heap.size, 0, none⟩ (.slice a5 (limbs QQ).length c5)).frozen? _ = false := (frozen_set _ _ _ _ _).trans qf1
    replace qf2 : (w23.setCell ⟨w6.heap.size, 0, none⟩ (.slice a5 (limbs QQ).length c5)).frozen? _ = false := (frozen_set _ _ _ _ _).trans qf2
    replace Nf0 : (w23.setCell ⟨w6.heap.size, 0, none⟩ (.slice a5 (limbs QQ).length c5)).frozen? _ = false := (frozen_set _ _ _ _ _).trans Nf0
    replace Uf0 : (w23.setCell ⟨w6.heap.size, 0, none⟩ (.slice a5 (limbs QQ).length c5)).frozen? _ = false := (frozen_set _ _ _ _ _).trans Uf0
    replace U0 : (w23.setCell ⟨w6.heap.size, 0, none⟩ (.slice a5 (limbs QQ).length c5)).cell? ⟨w6.heap.size, 0, none⟩ = some (.slice a5 (limbs QQ).length c5) := cell_on _ _ _ _ _ U0
    replace K := hide ((unhide K).setNew (p := ⟨w6.heap.size, 0, none⟩) (by dsimp only; omega) (.slice a5 (limbs QQ).length c5))
    have zs25 : (w23.setCell ⟨w6.heap.size, 0, none⟩ (.slice a5 (limbs QQ).length c5)).heap.size = w23.heap.size := by simp [World.setCell]
    clear sS0
    generalize w23.setCell ⟨w6.heap.size, 0, none⟩ (.slice a5 (limbs QQ).length c5) = ws25 at *
    go_upto_region 17 with fail
    have hsg : (false && decide (0 < (limbs QQ).length)) = false := rfl
    have mk := make_spec false ws25 r5 lml (by omega)
    rw [hsg, hnl] at mk
    clear hsg hnl
    go_wp2_with fail
    refine (mk).mono ?_
    rintro e w26 ⟨v3, rfl, r3, k26⟩
    replace r := r.kp k26
    replace rn := rn.kp k26
    replace rq := rq.kp k26
    replace rm := rm.kp k26
    replace rs := rs.kp k26
    replace r4 := r4.kp k26
    replace r5 := r5.kp k26
    replace qf0 := k26.loose0 (zbl q0) qf0
    replace qf1 := k26.loose0 (zbl q1) qf1
    replace qf2 := k26.loose0 (zbl q2) qf2
    replace Nf0 := k26.loose0 (zbl N0) Nf0
    replace Uf0 := k26.loose0 (zbl U0) Uf0
    replace p0 := k26.cell0 p0
    replace p1 := k26.cell0 p1
    replace p2 := k26.cell0 p2
    replace q0 := k26.cell0 q0
    replace q1 := k26.cell0 q1
    replace q2 := k26.cell0 q2
    replace N0 := k26.cell0 N0
    replace U0 := k26.cell0 U0
    replace K := hide ((unhide K).trans k26)
    have z27 := k26.size
    clear k26
    clear mk
    have mk := make4_spec false (low - 3) MQ (unhide HMQ) (by omega) (by omega) w26 r3 ⟨limbs_nrm _, fun _ => len_pos_limbs pQ⟩ (by omega)
    rw [unhide HGS, unhide HGL, unhide HGE] at mk
    go_wp2_with fail
    refine (mk).mono ?_
    rintro e w28 ⟨v8, rfl, r8, k28⟩
    replace r := r.kp k28
    replace rn := rn.kp k28
    replace rq := rq.kp k28
    replace rm := rm.kp k28
    replace rs := rs.kp k28
    replace r4 := r4.kp k28
    replace r5 := r5.kp k28
    replace r3 := r3.kp k28
    replace qf0 := k28.loose0 (zbl q0) qf0
    replace qf1 := k28.loose0 (zbl q1) qf1
    replace qf2 := k28.loose0 (zbl q2) qf2
    replace Nf0 := k28.loose0 (zbl N0) Nf0
    replace Uf0 := k28.loose0 (zbl U0) Uf0
    replace p0 := k28.cell0 p0
    replace p1 := k28.cell0 p1
    replace p2 := k28.cell0 p2
    replace q0 := k28.cell0 q0
    replace q1 := k28.cell0 q1
    replace q2 := k28.cell0 q2
    replace N0 := k28.cell0 N0
    replace U0 := k28.cell0 U0
    replace K := hide ((unhide K).trans k28)
    have z29 := k28.size
    clear k28
    clear mk
    obtain ⟨a8, c8, hv⟩ := Row.form' r8
    subst hv
    have R := hide ((((r8.set_other (p := ⟨w.heap.size + 1, 0, none⟩) (.inl (by have := unhide S0; dsimp only; omega)) (.bool GS)).set_other (p := ⟨w.heap.size + 1, 1, none⟩) (.inl (by have := unhide S0; dsimp only; omega)) (.slice a8 GL.length c8)).set_other (p := ⟨w.heap.size + 1, 2, none⟩) (.inl (by have := unhide S0; dsimp only; omega)) (.int .i64 GE)).tight.wider (lo' := w.heap.size) (by have := unhide S0; omega) (Nat.le_refl _))
    have K7 := hide ((((unhide K).setNew (p := ⟨w.heap.size + 1, 0, none⟩) (by simp) (.bool GS)).setNew (p := ⟨w.heap.size + 1, 1, none⟩) (by simp) (.slice a8 GL.length c8)).setNew (p := ⟨w.heap.size + 1, 2, none⟩) (by simp) (.int .i64 GE))
    clear r rn rq rm rs r4 r5 r3 r8 K 
    go_wp2_with fail
    exact bodyPost_ret (v := .agg #[.bool GS, .slice a8 GL.length c8, .int .i64 GE]) (by simp [results, Tryz.results30, go_sem, q0, q1, q2]) rfl ⟨_, rfl, unhide R, unhide K7⟩

end Go.Proofs.YtadbdchjhglldaaGreatDoor

