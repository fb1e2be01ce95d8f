/-
  The float of a number: the model's l5round.
-/
import Derived.Test.YtepehpkmejjhiaaGreatDoorBS
import Derived.Test.YtepehpkmejjhiaaGreatDoorBY
import Derived.Test.YtepehpkmejjhiaaGreatDoorBK
namespace Go.Proofs.YtepehpkmejjhiaaGreatDoor
open Go.RowKit
set_option linter.unusedVariables false
set_option maxRecDepth 8000
set_option linter.unusedSimpArgs false

theorem in_l2shl_r : ∀ (w : World) (args : Array Value), (callFunc 108 args).run Tryz.prog w = .ok (.enter 108 args) w := enters Tryz.func108 (by decide) (fun h => by cases h)

theorem in_l2int_r : ∀ (w : World) (args : Array Value), (callFunc 107 args).run Tryz.prog w = .ok (.enter 107 args) w := enters Tryz.func107 (by decide) (fun h => by cases h)

theorem or_14s : bits BinOp.or IntKind.i64 1 4 = 5 := by decide
theorem most_kept (n : Bool) (w : World) :
    Calls Tryz.prog 106 #[.bool n] w fun r w' => r = .returned (flv 1 n 9007199254740991 971) ∧ Kept 0 0 w w' :=
  (l5most_any n w).mono (fun e w' h => ⟨h.1, by rw [h.2]; exact (Kept.refl 0 0 w).alloc _⟩)
theorem mode5s {mode : Int} (h0 : 0 ≤ mode) (h4 : mode ≤ 4) : mode = 0 ∨ mode = 1 ∨ mode = 2 ∨ mode = 3 ∨ mode = 4 := by omega
theorem flI_le (R : Nat) (low : Int) (h : R ≤ 2 ^ 53) : (flI R low).2.1 ≤ 9007199254740992 := by
  have h1 : R ≤ 9007199254740992 := h
  unfold flI
  split
  · simp
  · split <;> simp <;> omega
theorem dlm_len {M : Int} {R : Nat} (h : M.natAbs = R) : (dlm M).length ≤ (limbs R).length := by
  unfold dlm
  rw [h]
  exact limbs_len_le (Nat.div_le_self _ _)
theorem dlm_nil_iff {M : Int} : (dlm M).length = 0 ↔ M = 0 := by
  constructor
  · intro h
    rcases Int.lt_trichotomy M 0 with h1 | h1 | h1
    · have := (dlm_pos (m := M) (by omega)).1; omega
    · exact h1
    · have := (dlm_pos (m := M) (by omega)).1; omega
  · intro h; subst h; rw [dlm_zero]; rfl

set_option maxHeartbeats 8000000 in
theorem l5round_spec {bw : Bool} {lo hi : Nat} {v : Value} {zs : List Int} (s : Bool) (x : Int) (hx0 : -100000 ≤ x) (hx1 : x ≤ 100000) (w : World) (r : Row .i64 bw lo hi w v zs) (hn : WN s zs) (ho : zs ≠ [] → val zs % 2 = 1) (hz : zs = [] → x = 0) (hl : zs.length ≤ 5000) (mode : Int) (hm0 : 0 ≤ mode) (hm4 : mode ≤ 4) (zero : Bool) :
    Calls Tryz.prog 62 #[.agg #[.bool s, v, .int .i64 x], .int .i64 mode, .bool zero] w fun e w' => e = .returned (.tuple #[flv (flA mode s (val zs).toNat x).1 (if (val zs).toNat = 0 then zero else s) (flA mode s (val zs).toNat x).2.1 (flA mode s (val zs).toNat x).2.2, .int .i64 (flG mode s (val zs).toNat x)]) ∧ Kept 0 0 w w' := by
  obtain ⟨A, hA⟩ : ∃ A, flA mode s (val zs).toNat x = A := ⟨_, rfl⟩
  obtain ⟨F, hF⟩ : ∃ F, flG mode s (val zs).toNat x = F := ⟨_, rfl⟩
  obtain ⟨SS, hSS⟩ : ∃ y, (if (val zs).toNat = 0 then zero else s) = y := ⟨_, rfl⟩
  rw [hA, hF, hSS]
  have HA := hide hA
  have HF := hide hF
  have HSS := hide hSS
  clear hA hF hSS
  have hv0 := val_nonneg hn.1.1
  have h14 := or_14s
  have k0 : Kept 0 0 w ((w.alloc (.cells #[.bool s, v, .int .i64 x] 37)).alloc (.cells #[.int .i64 0, .bool false, .int .i64 0, .int .i64 0] 24)) := (((Kept.refl 0 0 w).alloc (.cells #[.bool s, v, .int .i64 x] 37)).alloc (.cells #[.int .i64 0, .bool false, .int .i64 0, .int .i64 0] 24))
  have p0 : ((w.alloc (.cells #[.bool s, v, .int .i64 x] 37)).alloc (.cells #[.int .i64 0, .bool false, .int .i64 0, .int .i64 0] 24)).cell? ⟨w.heap.size, 0, none⟩ = some (.bool s) := old_cell _ (new_cell2 _ _ _ _ _ _ (by simp) rfl)
  have p1 : ((w.alloc (.cells #[.bool s, v, .int .i64 x] 37)).alloc (.cells #[.int .i64 0, .bool false, .int .i64 0, .int .i64 0] 24)).cell? ⟨w.heap.size, 1, none⟩ = some (v) := old_cell _ (new_cell2 _ _ _ _ _ _ (by simp) rfl)
  have p2 : ((w.alloc (.cells #[.bool s, v, .int .i64 x] 37)).alloc (.cells #[.int .i64 0, .bool false, .int .i64 0, .int .i64 0] 24)).cell? ⟨w.heap.size, 2, none⟩ = some (.int .i64 x) := old_cell _ (new_cell2 _ _ _ _ _ _ (by simp) rfl)
  have q0 : ((w.alloc (.cells #[.bool s, v, .int .i64 x] 37)).alloc (.cells #[.int .i64 0, .bool false, .int .i64 0, .int .i64 0] 24)).cell? ⟨w.heap.size + 1, 0, none⟩ = some (.int .i64 0) := new_cell2 _ _ _ _ _ _ (by simp) rfl
  have qf0 : ((w.alloc (.cells #[.bool s, v, .int .i64 x] 37)).alloc (.cells #[.int .i64 0, .bool false, .int .i64 0, .int .i64 0] 24)).frozen? ⟨w.heap.size + 1, 0, none⟩ = false := new_loose2 _ _ _ _ _ (by simp)
  have q1 : ((w.alloc (.cells #[.bool s, v, .int .i64 x] 37)).alloc (.cells #[.int .i64 0, .bool false, .int .i64 0, .int .i64 0] 24)).cell? ⟨w.heap.size + 1, 1, none⟩ = some (.bool false) := new_cell2 _ _ _ _ _ _ (by simp) rfl
  have qf1 : ((w.alloc (.cells #[.bool s, v, .int .i64 x] 37)).alloc (.cells #[.int .i64 0, .bool false, .int .i64 0, .int .i64 0] 24)).frozen? ⟨w.heap.size + 1, 1, none⟩ = false := new_loose2 _ _ _ _ _ (by simp)
  have q2 : ((w.alloc (.cells #[.bool s, v, .int .i64 x] 37)).alloc (.cells #[.int .i64 0, .bool false, .int .i64 0, .int .i64 0] 24)).cell? ⟨w.heap.size + 1, 2, none⟩ = some (.int .i64 0) := new_cell2 _ _ _ _ _ _ (by simp) rfl
  have qf2 : ((w.alloc (.cells #[.bool s, v, .int .i64 x] 37)).alloc (.cells #[.int .i64 0, .bool false, .int .i64 0, .int .i64 0] 24)).frozen? ⟨w.heap.size + 1, 2, none⟩ = false := new_loose2 _ _ _ _ _ (by simp)
  have q3 : ((w.alloc (.cells #[.bool s, v, .int .i64 x] 37)).alloc (.cells #[.int .i64 0, .bool false, .int .i64 0, .int .i64 0] 24)).cell? ⟨w.heap.size + 1, 3, none⟩ = some (.int .i64 0) := new_cell2 _ _ _ _ _ _ (by simp) rfl
  have qf3 : ((w.alloc (.cells #[.bool s, v, .int .i64 x] 37)).alloc (.cells #[.int .i64 0, .bool false, .int .i64 0, .int .i64 0] 24)).frozen? ⟨w.heap.size + 1, 3, none⟩ = false := new_loose2 _ _ _ _ _ (by simp)
  replace r := r.kept k0 (by omega)
  have s0 : ((w.alloc (.cells #[.bool s, v, .int .i64 x] 37)).alloc (.cells #[.int .i64 0, .bool false, .int .i64 0, .int .i64 0] 24)).heap.size = w.heap.size + 2 := by simp
  obtain ⟨a, c, hv⟩ := Row.form' r
  subst hv
  have K := hide (k0)
  clear k0
  have S0 := hide s0
  clear s0
  go_enter Tryz.func62, Tryz.ntmps62
  by_cases h0 : zs.length = 0
  · have hb0 : ((zs.length : Int) == 0) = true := beq_iff_eq.2 (by omega)
    have hV : (val zs).toNat = 0 := by rw [List.length_eq_zero_iff.1 h0]; rfl
    have FA : Hid (A = (0, 0, 0) ∧ F = 0 ∧ SS = zero) := by
      refine ⟨?_, ?_, ?_⟩
      · rw [← unhide HA]; unfold flA; rw [if_pos hV]
      · rw [← unhide HF]; unfold flG; rw [if_pos hV]
      · rw [← unhide HSS, if_pos hV]
    clear h0 hV r hn ho hz
    have KF := hide (((Kept.refl 0 0 w).alloc (.cells #[.bool s, .slice a zs.length c, .int .i64 x] 37)).alloc (.cells #[.int .i64 0, .bool zero, .int .i64 0, .int .i64 0] 24))
    clear K
    go_wp2_with fail
    exact bodyPost_ret (v := .tuple #[.agg #[.int .i64 0, .bool zero, .int .i64 0, .int .i64 0], .int .i64 0]) (by simp [results, Tryz.results62, go_sem, q0, q1, q2, q3]) rfl ⟨by rw [(unhide FA).1, (unhide FA).2.1, (unhide FA).2.2], unhide KF⟩
  have hb0 : ((zs.length : Int) == 0) = false := beq_eq_false_iff_ne.2 (by omega)
  have hVne : (val zs).toNat ≠ 0 := fun e => h0 (by rw [nrm_nil hn.1 (by omega)]; rfl)
  have hSs : SS = s := by rw [← unhide HSS, if_neg hVne]
  obtain ⟨TT, hTT⟩ : ∃ y, topI zs x = y := ⟨_, rfl⟩
  have hT1 : flTop (val zs).toNat x = TT := by rw [← hTT]; unfold topI flTop; rw [if_neg h0]
  have hbn := bitsN_limbs hn.1
  have hTb : -100000 ≤ TT ∧ TT ≤ 180000 := by rw [← hT1]; unfold flTop; omega
  have hw1 : IntKind.i64.wrap (TT - 53) = TT - 53 := w64 _ (by omega) (by omega)
  clear hbn
  go_wp2_with fail
  generalize ((w.alloc (.cells #[.bool s, .slice a zs.length c, .int .i64 x] 37)).alloc (.cells #[.int .i64 0, .bool false, .int .i64 0, .int .i64 0] 24)) = W at *
  subst hSs
  have mt := top4_spec SS x (by omega) (by omega) W r hn.1 (by omega)
  rw [hTT] at mt
  refine (mt).mono ?_
  rintro e w1 ⟨rfl, k1⟩
  replace r := r.kept k1 (.inr (.inr (Nat.le_refl 0)))
  replace qf0 := k1.loose0 (World.block_lt_of_cell? _ _ q0) qf0
  replace qf1 := k1.loose0 (World.block_lt_of_cell? _ _ q1) qf1
  replace qf2 := k1.loose0 (World.block_lt_of_cell? _ _ q2) qf2
  replace qf3 := k1.loose0 (World.block_lt_of_cell? _ _ q3) qf3
  replace p0 := k1.cell0 p0
  replace p1 := k1.cell0 p1
  replace p2 := k1.cell0 p2
  replace q0 := k1.cell0 q0
  replace q1 := k1.cell0 q1
  replace q2 := k1.cell0 q2
  replace q3 := k1.cell0 q3
  replace K := hide ((unhide K).trans k1)
  have z2 := k1.size
  clear k1
  clear mt
  have hlow : flLow (val zs).toNat x = max (TT - 53) (-1074) := by unfold flLow; rw [hT1]
  by_cases hlo : TT - 53 < -1074
  · have hlw : flLow (val zs).toNat x = (-1074) := by rw [hlow]; omega
    have lo2 : -1100 ≤ (-1074) ∧ (-1074) ≤ 180000 := by omega
    go_wp2_with fail
    have mr := round4_spec SS x (-1074) (by omega) (by omega) (by omega) (by omega) w1 r hn ho hz (by omega) mode (by omega) (by omega)
    obtain ⟨M, hM⟩ : ∃ y, rndM mode.toNat SS (val zs).toNat (x - ((-1074) - 1)) = y := ⟨_, rfl⟩
    obtain ⟨EX, hEX⟩ : ∃ y, rndX (scN (val zs).toNat (x - ((-1074) - 1))) (scL (val zs).toNat (x - ((-1074) - 1))) = y := ⟨_, rfl⟩
    rw [hM, hEX] at mr
    obtain ⟨R, hR⟩ : ∃ y, flR mode.toNat SS (val zs).toNat x = y := ⟨_, rfl⟩
    have hMR : M = wval SS (limbs R) := by rw [← hM, ← hR]; unfold rndM flR flH flL; rw [hlw]
    have hMa : M.natAbs = R := by rw [hMR, wval_abs (limbs_lim _), limbs_val, Int.toNat_natCast]
    have hX2 : flX (val zs).toNat x = EX := by rw [← hEX]; unfold flX flH flL; rw [hlw]
    have hRb : R ≤ 2 ^ 53 := by rw [← hR]; exact flR_le _ _ _ _
    have hRg : -1074 < (-1074) → 2 ^ 52 ≤ R := fun h => by rw [← hR]; exact flR_ge _ _ hVne (by rw [hlw]; exact h)
    have nR : (limbs R).length ≤ 4 := by
      refine (limbs_length_le _ _).2 ?_
      rw [show (65536 : Int) ^ 4 = 18446744073709551616 by decide]
      have : R ≤ 9007199254740992 := hRb
      omega
    have nM : (dlm M).length ≤ 4 := Nat.le_trans (dlm_len hMa) nR
    have FG : Hid (flF (val zs).toNat x = (if EX = true then 0 else if TT ≤ -1022 then 5 else 1)) := by show _ = _; unfold flF; rw [hX2, hT1]
    have FB : Hid (1024 < topI (limbs R) (-1074) → A = flO mode SS ∧ F = 3) := fun hb => by
      rw [← unhide HA, ← unhide HF]
      unfold flA flG
      rw [if_neg hVne, if_neg hVne, hR, hlw, if_pos hb, if_pos hb]
      exact ⟨rfl, rfl⟩
    have FI : Hid (¬ 1024 < topI (limbs R) (-1074) → A = flI R (-1074) ∧ F = flF (val zs).toNat x) := fun hb => by
      rw [← unhide HA, ← unhide HF]
      unfold flA flG
      rw [if_neg hVne, if_neg hVne, hR, hlw, if_neg hb, if_neg hb]
      exact ⟨rfl, rfl⟩
    have hdxb : dex M (-1074) ≤ 300000 ∧ -300000 ≤ dex M (-1074) := by
      unfold dex
      split
      · omega
      · rename_i h
        have := tz_lt (n := M.natAbs) (k := 54) (by omega) (by rw [hMa]; exact Nat.lt_of_le_of_lt hRb (by decide))
        omega
    have hfin := fun (h : R ≠ 0) => fl_fin (low := (-1074)) h hRb (by omega) hRg M hMa
    have hsM : R ≠ 0 → wsg M = SS := fun h => by
      rw [hMR]
      refine wn_sign ⟨limbs_nrm _, fun _ => ?_⟩
      have h1 := limbs_pos R
      rw [decide_eq_true (show 0 < R by omega)] at h1
      exact of_decide_eq_true h1
    have hz0 : (dlm M).length = 0 ↔ R = 0 := by rw [dlm_nil_iff]; omega
    have lM : Nrm (dlm M) := limbs_nrm _
    clear hM hR hEX hMR hX2 hRg hlw
    refine (mr).mono ?_
    rintro e w3 ⟨v6, rfl, r6, k3⟩
    replace r := r.kept k3 (.inr (.inr (Nat.le_refl 0)))
    replace qf0 := k3.loose0 (World.block_lt_of_cell? _ _ q0) qf0
    replace qf1 := k3.loose0 (World.block_lt_of_cell? _ _ q1) qf1
    replace qf2 := k3.loose0 (World.block_lt_of_cell? _ _ q2) qf2
    replace qf3 := k3.loose0 (World.block_lt_of_cell? _ _ q3) qf3
    replace p0 := k3.cell0 p0
    replace p1 := k3.cell0 p1
    replace p2 := k3.cell0 p2
    replace q0 := k3.cell0 q0
    replace q1 := k3.cell0 q1
    replace q2 := k3.cell0 q2
    replace q3 := k3.cell0 q3
    replace K := hide ((unhide K).trans k3)
    have z4 := k3.size
    clear k3
    clear mr
    obtain ⟨a6, c6, hv⟩ := Row.form' r6
    subst hv
    obtain ⟨zM, hzM⟩ : ∃ y, dlm M = y := ⟨_, rfl⟩
    obtain ⟨eM, heM⟩ : ∃ y, dex M (-1074) = y := ⟨_, rfl⟩
    obtain ⟨sM, hsMe⟩ : ∃ y, wsg M = y := ⟨_, rfl⟩
    rw [hsMe, heM]
    simp only [hzM] at *
    simp only [heM] at *
    rw [hsMe] at hsM
    clear hzM heM hsMe
    have HFIN := hide hfin
    have HSM := hide hsM
    have HZ0 := hide hz0
    clear hfin hsM hz0
    cases EX
    · have kn := (Kept.refl 0 0 w3).alloc (.cells #[.bool sM, .slice a6 zM.length c6, .int .i64 eM] 37)
      have t0 : (w3.alloc (.cells #[.bool sM, .slice a6 zM.length c6, .int .i64 eM] 37)).cell? ⟨w3.heap.size, 0, none⟩ = some (.bool sM) := new_cell2 _ _ _ _ _ _ (by simp) rfl
      have t1 : (w3.alloc (.cells #[.bool sM, .slice a6 zM.length c6, .int .i64 eM] 37)).cell? ⟨w3.heap.size, 1, none⟩ = some (.slice a6 zM.length c6) := new_cell2 _ _ _ _ _ _ (by simp) rfl
      have t2 : (w3.alloc (.cells #[.bool sM, .slice a6 zM.length c6, .int .i64 eM] 37)).cell? ⟨w3.heap.size, 2, none⟩ = some (.int .i64 eM) := new_cell2 _ _ _ _ _ _ (by simp) rfl
      have sz5 : w3.heap.size + 1 ≤ (w3.alloc (.cells #[.bool sM, .slice a6 zM.length c6, .int .i64 eM] 37)).heap.size := by simp
      replace r := r.kept kn (.inr (.inr (Nat.le_refl 0)))
      replace r6 := r6.kept kn (.inr (.inr (Nat.le_refl 0)))
      replace qf0 := kn.loose0 (World.block_lt_of_cell? _ _ q0) qf0
      replace qf1 := kn.loose0 (World.block_lt_of_cell? _ _ q1) qf1
      replace qf2 := kn.loose0 (World.block_lt_of_cell? _ _ q2) qf2
      replace qf3 := kn.loose0 (World.block_lt_of_cell? _ _ q3) qf3
      replace p0 := kn.cell0 p0
      replace p1 := kn.cell0 p1
      replace p2 := kn.cell0 p2
      replace q0 := kn.cell0 q0
      replace q1 := kn.cell0 q1
      replace q2 := kn.cell0 q2
      replace q3 := kn.cell0 q3
      replace K := hide ((unhide K).trans kn)
      have z6 := kn.size
      clear kn
      go_wp2_with fail
      generalize (w3.alloc (.cells #[.bool sM, .slice a6 zM.length c6, .int .i64 eM] 37)) = wn7 at *
      have mt := top4_spec SS x (by omega) (by omega) wn7 r hn.1 (by omega)
      rw [hTT] at mt
      refine (mt).mono ?_
      rintro e w8 ⟨rfl, k8⟩
      replace r := r.kept k8 (.inr (.inr (Nat.le_refl 0)))
      replace r6 := r6.kept k8 (.inr (.inr (Nat.le_refl 0)))
      replace qf0 := k8.loose0 (World.block_lt_of_cell? _ _ q0) qf0
      replace qf1 := k8.loose0 (World.block_lt_of_cell? _ _ q1) qf1
      replace qf2 := k8.loose0 (World.block_lt_of_cell? _ _ q2) qf2
      replace qf3 := k8.loose0 (World.block_lt_of_cell? _ _ q3) qf3
      replace p0 := k8.cell0 p0
      replace p1 := k8.cell0 p1
      replace p2 := k8.cell0 p2
      replace q0 := k8.cell0 q0
      replace q1 := k8.cell0 q1
      replace q2 := k8.cell0 q2
      replace q3 := k8.cell0 q3
      replace t0 := k8.cell0 t0
      replace t1 := k8.cell0 t1
      replace t2 := k8.cell0 t2
      replace K := hide ((unhide K).trans k8)
      have z9 := k8.size
      clear k8
      clear mt
      clear r
      have hu : TT < -1021 := by omega
      have FGv : Hid (flF (val zs).toNat x = 5) := by show _ = _; rw [unhide FG]; simp [show TT ≤ -1022 by omega]
      clear FG
      by_cases hR0 : R = 0
      · have hzl : ((zM.length : Int) == 0) = true := beq_iff_eq.2 (by have := (unhide HZ0).2 hR0; omega)
        have FA : Hid (A = (0, 0, 0) ∧ F = 5) := by
          have ht : topI (limbs R) (-1074) ≤ 1024 := by rw [hR0, topI_zero]; decide
          obtain ⟨f1, f2⟩ := unhide FI (by omega)
          exact ⟨by rw [f1]; unfold flI; rw [if_pos hR0], by rw [f2, unhide FGv]⟩
        clear FB FI HFIN hR0
        have KF := hide (((((unhide K).setNew (p := ⟨w.heap.size + 1, 0, none⟩) (by simp) (.int .i64 0)).setNew (p := ⟨w.heap.size + 1, 1, none⟩) (by simp) (.bool SS)).setNew (p := ⟨w.heap.size + 1, 2, none⟩) (by simp) (.int .i64 0)).setNew (p := ⟨w.heap.size + 1, 3, none⟩) (by simp) (.int .i64 0))
        clear r6 K 
        try go_wp2_with fail
        exact bodyPost_ret (v := .tuple #[.agg #[.int .i64 0, .bool SS, .int .i64 0, .int .i64 0], .int .i64 5]) (by simp [results, Tryz.results62, go_sem, q0, q1, q2, q3, or_14s]) rfl ⟨by rw [(unhide FA).1, (unhide FA).2], unhide KF⟩
      have hzl : ((zM.length : Int) == 0) = false := beq_eq_false_iff_ne.2 (by have h := (unhide HZ0).1; omega)
      go_wp2_with fail
      obtain ⟨hf1, hf2⟩ := unhide HFIN hR0
      have hsm := unhide HSM hR0
      subst hsm
      obtain ⟨TR, hTR⟩ : ∃ y, (-1074) + (bitsN R : Int) = y := ⟨_, rfl⟩
      rw [hTR] at hf1
      simp only [hTR] at hf2
      rw [topI_limbs hR0, hTR] at FB FI
      have HF2 := hide hf2
      clear hf2 HFIN
      have mt := top4_spec sM eM (by omega) (by omega) w8 r6 lM (by omega)
      rw [hf1] at mt
      have hTRb : -2000 ≤ TR ∧ TR ≤ (-1000) := by have := (bitsN_le R 54).2 (Nat.lt_of_le_of_lt hRb (by decide)); omega
      have HTOP := hide hf1
      clear hf1 hTR
      refine (mt).mono ?_
      rintro e w10 ⟨rfl, k10⟩
      replace r6 := r6.kept k10 (.inr (.inr (Nat.le_refl 0)))
      replace qf0 := k10.loose0 (World.block_lt_of_cell? _ _ q0) qf0
      replace qf1 := k10.loose0 (World.block_lt_of_cell? _ _ q1) qf1
      replace qf2 := k10.loose0 (World.block_lt_of_cell? _ _ q2) qf2
      replace qf3 := k10.loose0 (World.block_lt_of_cell? _ _ q3) qf3
      replace p0 := k10.cell0 p0
      replace p1 := k10.cell0 p1
      replace p2 := k10.cell0 p2
      replace q0 := k10.cell0 q0
      replace q1 := k10.cell0 q1
      replace q2 := k10.cell0 q2
      replace q3 := k10.cell0 q3
      replace t0 := k10.cell0 t0
      replace t1 := k10.cell0 t1
      replace t2 := k10.cell0 t2
      replace K := hide ((unhide K).trans k10)
      have z11 := k10.size
      clear k10
      clear mt
      by_cases hbig : 1024 < TR
      · exact absurd hbig (by omega)
      go_wp2_with fail
      have mt := top4_spec sM eM (by omega) (by omega) w10 r6 lM (by omega)
      rw [unhide HTOP] at mt
      refine (mt).mono ?_
      rintro e w12 ⟨rfl, k12⟩
      replace r6 := r6.kept k12 (.inr (.inr (Nat.le_refl 0)))
      replace qf0 := k12.loose0 (World.block_lt_of_cell? _ _ q0) qf0
      replace qf1 := k12.loose0 (World.block_lt_of_cell? _ _ q1) qf1
      replace qf2 := k12.loose0 (World.block_lt_of_cell? _ _ q2) qf2
      replace qf3 := k12.loose0 (World.block_lt_of_cell? _ _ q3) qf3
      replace p0 := k12.cell0 p0
      replace p1 := k12.cell0 p1
      replace p2 := k12.cell0 p2
      replace q0 := k12.cell0 q0
      replace q1 := k12.cell0 q1
      replace q2 := k12.cell0 q2
      replace q3 := k12.cell0 q3
      replace t0 := k12.cell0 t0
      replace t1 := k12.cell0 t1
      replace t2 := k12.cell0 t2
      replace K := hide ((unhide K).trans k12)
      have z13 := k12.size
      clear k12
      clear mt
      obtain ⟨f1, f2⟩ := unhide FI (by omega)
      rw [unhide FGv] at f2
      have hw2 : IntKind.i64.wrap (TR - 53) = TR - 53 := w64 _ (by omega) (by omega)
      clear FB FI
      by_cases hlo2 : TR - 53 < -1074
      · obtain ⟨g1, g2⟩ := unhide HF2 (-1074) (by omega)
        have hq := flI_le R (-1074) hRb
        rw [g2] at f1 hq
        have FA := hide f1
        have FF := hide f2
        clear f1 f2 g2 HF2
        obtain ⟨NK, hNK⟩ : ∃ K : Nat, eM - (-1074) = K := ⟨(eM - (-1074)).toNat, by omega⟩
        have hkb : NK ≤ 800000 := by omega
        have hwk : IntKind.i64.wrap (eM - (-1074)) = (NK : Int) := by rw [w64 _ (by omega) (by omega)]; exact hNK
        have hkk : (eM - (-1074)).toNat = NK := by omega
        rw [hkk] at FA hq
        dsimp only at hq
        clear hkk hNK
        have hwk2 : IntKind.i64.wrap (eM + 1074) = (NK : Int) := by rw [← hwk]; congr 1
        skip
        go_wp2_with fail
        obtain ⟨VV, hVV⟩ : ∃ y, (val zM).toNat * 2 ^ NK = y := ⟨_, rfl⟩
        rw [hVV] at FA hq
        have hVb : VV ≤ 9007199254740992 := by omega
        clear hq
        have n_qf0 := qf0
        have n_q0 := q0
        have n_qf1 := qf1
        have n_q1 := q1
        have n_qf2 := qf2
        have n_q2 := q2
        have n_qf3 := qf3
        have n_q3 := q3
        have kd := (Kept.refl 0 0 w12).drew
        replace r6 := r6.kept kd (.inr (.inr (Nat.le_refl 0)))
        replace qf0 := kd.loose0 (World.block_lt_of_cell? _ _ q0) qf0
        replace qf1 := kd.loose0 (World.block_lt_of_cell? _ _ q1) qf1
        replace qf2 := kd.loose0 (World.block_lt_of_cell? _ _ q2) qf2
        replace qf3 := kd.loose0 (World.block_lt_of_cell? _ _ q3) qf3
        replace p0 := kd.cell0 p0
        replace p1 := kd.cell0 p1
        replace p2 := kd.cell0 p2
        replace q0 := kd.cell0 q0
        replace q1 := kd.cell0 q1
        replace q2 := kd.cell0 q2
        replace q3 := kd.cell0 q3
        replace t0 := kd.cell0 t0
        replace t1 := kd.cell0 t1
        replace t2 := kd.cell0 t2
        replace K := hide ((unhide K).trans kd)
        have z14 := kd.size
        clear kd
        refine wp_region_held_drew (S := (fun w' => w'.cell? ⟨w3.heap.size, 0, none⟩ = some (.bool sM) ∧ w'.cell? ⟨w3.heap.size, 1, none⟩ = some (.slice a6 zM.length c6) ∧ w'.cell? ⟨w3.heap.size, 2, none⟩ = some (.int .i64 eM))) (by kernel_rfl) ?_ (fun hHeld => ?_)
        · exact ⟨t0, t1, t2⟩
        refine wT (i := 0) (v := .pointer (some ⟨w3.heap.size, 0, none⟩)) rfl (Or.inl ⟨by rfl, ?_⟩) hHeld ?_
        · intro wq hSw
          try dsimp only at hSw
          go_simp
        try simp only [Act.put, zq1, zq2, zq3, zq4, zq5, zq6]
        refine wT (i := 1) (v := .pointer (some ⟨w3.heap.size, 0, none⟩)) rfl (Or.inl ⟨by rfl, ?_⟩) hHeld ?_
        · intro wq hSw
          try dsimp only at hSw
          go_simp
        try simp only [Act.put, zq1, zq2, zq3, zq4, zq5, zq6]
        refine wT (i := 2) (v := .bool sM) rfl (Or.inl ⟨by rfl, ?_⟩) hHeld ?_
        · intro wq hSw
          try dsimp only at hSw
          go_simp
        try simp only [Act.put, zq1, zq2, zq3, zq4, zq5, zq6]
        refine wT (i := 3) (v := .pointer (some ⟨w3.heap.size, 0, none⟩)) rfl (Or.inl ⟨by rfl, ?_⟩) hHeld ?_
        · intro wq hSw
          try dsimp only at hSw
          go_simp
        try simp only [Act.put, zq1, zq2, zq3, zq4, zq5, zq6]
        refine wT (i := 4) (v := .pointer (some ⟨w3.heap.size, 1, none⟩)) rfl (Or.inl ⟨by rfl, ?_⟩) hHeld ?_
        · intro wq hSw
          try dsimp only at hSw
          go_simp
        try simp only [Act.put, zq1, zq2, zq3, zq4, zq5, zq6]
        refine wT (i := 5) (v := .agg #[.slice a6 zM.length c6]) rfl (Or.inl ⟨by rfl, ?_⟩) hHeld ?_
        · intro wq hSw
          try dsimp only at hSw
          go_simp
        try simp only [Act.put, zq1, zq2, zq3, zq4, zq5, zq6]
        refine wT (i := 6) (v := .pointer (some ⟨w3.heap.size, 2, none⟩)) rfl (Or.inl ⟨by rfl, ?_⟩) hHeld ?_
        · intro wq hSw
          try dsimp only at hSw
          go_simp
        try simp only [Act.put, zq1, zq2, zq3, zq4, zq5, zq6]
        refine wT (i := 7) (v := .int .i64 eM) rfl (Or.inl ⟨by rfl, ?_⟩) hHeld ?_
        · intro wq hSw
          try dsimp only at hSw
          go_simp
        try simp only [Act.put, zq1, zq2, zq3, zq4, zq5, zq6]
        refine wT (i := 8) (v := .int .i64 (-1074)) rfl (Or.inl ⟨by rfl, ?_⟩) hHeld ?_
        · intro wq hSw
          try dsimp only at hSw
          go_simp
        try simp only [Act.put, zq1, zq2, zq3, zq4, zq5, zq6]
        refine wT (i := 9) (v := .int .i64 (NK : Int)) rfl (Or.inl ⟨by rfl, ?_⟩) hHeld ?_
        · intro wq hSw
          try dsimp only at hSw
          go_simp
        try simp only [Act.put, zq1, zq2, zq3, zq4, zq5, zq6]
        refine wT (i := 12) (v := .int .i64 (-1074)) rfl (Or.inl ⟨by rfl, ?_⟩) hHeld ?_
        · intro wq hSw
          try dsimp only at hSw
          go_simp
        try simp only [Act.put, zq1, zq2, zq3, zq4, zq5, zq6]
        refine wT (i := 14) (v := .int .i64 5) rfl (Or.inl ⟨by rfl, ?_⟩) hHeld ?_
        · intro wq hSw
          try dsimp only at hSw
          go_simp
        try simp only [Act.put, zq1, zq2, zq3, zq4, zq5, zq6]
        refine wR 10 (by kernel_rfl) rfl (fun KK hK => ?_)
        simp only [zq1, zq2, zq3]
        rw [if_pos (by rfl)]
        refine wps2 108 (.tmp 95) (.tmp 99) _ rfl in_l2shl_r (.agg #[.slice a6 zM.length c6]) (.int .i64 (NK : Int)) rfl rfl (shl_spec _ r6 lM.1 (by omega) NK (.inr hkb) (by omega)) ?_
        rintro e w15 ⟨v9, rfl, r9, k15⟩
        refine ⟨_, rfl, ?_⟩
        replace r6 := r6.kept k15 (.inr (.inr (Nat.le_refl 0)))
        replace qf0 := k15.loose0 (World.block_lt_of_cell? _ _ q0) qf0
        replace qf1 := k15.loose0 (World.block_lt_of_cell? _ _ q1) qf1
        replace qf2 := k15.loose0 (World.block_lt_of_cell? _ _ q2) qf2
        replace qf3 := k15.loose0 (World.block_lt_of_cell? _ _ q3) qf3
        replace p0 := k15.cell0 p0
        replace p1 := k15.cell0 p1
        replace p2 := k15.cell0 p2
        replace q0 := k15.cell0 q0
        replace q1 := k15.cell0 q1
        replace q2 := k15.cell0 q2
        replace q3 := k15.cell0 q3
        replace t0 := k15.cell0 t0
        replace t1 := k15.cell0 t1
        replace t2 := k15.cell0 t2
        replace K := hide ((unhide K).trans k15)
        have z16 := k15.size
        clear k15
        clear hHeld
        refine hK.out _ _ ?_ (fun hHeld => ?_)
        · exact ⟨t0, t1, t2⟩
        clear hK KK
        try simp only [Act.put, zq1, zq2, zq3, zq4, zq5, zq6]
        rw [hVV] at r9
        obtain ⟨a9, c9, hv⟩ := Row.form' r9
        subst hv
        refine wR 11 (by kernel_rfl) rfl (fun KK hK => ?_)
        simp only [zq1, zq2, zq3]
        rw [if_pos (by rfl)]
        refine wps1 107 (.tmp 100) _ rfl in_l2int_r (.agg #[.slice a9 (limbs VV).length c9]) rfl (int_spec _ r9 (limbs_lim _) (by rw [limbs_val]; omega)) ?_
        rintro e w17 ⟨rfl, k17⟩
        refine ⟨_, rfl, ?_⟩
        replace r6 := r6.kept k17 (.inr (.inr (Nat.le_refl 0)))
        replace r9 := r9.kept k17 (.inr (.inr (Nat.le_refl 0)))
        replace qf0 := k17.loose0 (World.block_lt_of_cell? _ _ q0) qf0
        replace qf1 := k17.loose0 (World.block_lt_of_cell? _ _ q1) qf1
        replace qf2 := k17.loose0 (World.block_lt_of_cell? _ _ q2) qf2
        replace qf3 := k17.loose0 (World.block_lt_of_cell? _ _ q3) qf3
        replace p0 := k17.cell0 p0
        replace p1 := k17.cell0 p1
        replace p2 := k17.cell0 p2
        replace q0 := k17.cell0 q0
        replace q1 := k17.cell0 q1
        replace q2 := k17.cell0 q2
        replace q3 := k17.cell0 q3
        replace t0 := k17.cell0 t0
        replace t1 := k17.cell0 t1
        replace t2 := k17.cell0 t2
        replace K := hide ((unhide K).trans k17)
        have z18 := k17.size
        clear k17
        clear hHeld
        refine hK.out _ _ ?_ (fun hHeld => ?_)
        · exact ⟨t0, t1, t2⟩
        clear hK KK
        try simp only [Act.put, zq1, zq2, zq3, zq4, zq5, zq6]
        rw [limbs_val]
        refine wT (i := 13) (v := .agg #[.int .i64 1, .bool sM, .int .i64 (VV : Int), .int .i64 (-1074)]) rfl (Or.inl ⟨by rfl, ?_⟩) hHeld ?_
        · intro wq hSw
          try dsimp only at hSw
          go_simp
        try simp only [Act.put, zq1, zq2, zq3, zq4, zq5, zq6]
        refine wR 15 (by kernel_rfl) rfl (fun KK hK => ?_)
        simp only [zq1, zq2, zq3]
        rw [if_pos (by rfl)]
        go_simp
        clear hHeld
        refine hK.out _ _ ?_ (fun hHeld => ?_)
        · have sq := unhide S0; exact ⟨(cell_aside _ (by dsimp only; omega) (cell_aside _ (by dsimp only; omega) (cell_aside _ (by dsimp only; omega) (cell_aside _ (by dsimp only; omega) t0)))), (cell_aside _ (by dsimp only; omega) (cell_aside _ (by dsimp only; omega) (cell_aside _ (by dsimp only; omega) (cell_aside _ (by dsimp only; omega) t1)))), (cell_aside _ (by dsimp only; omega) (cell_aside _ (by dsimp only; omega) (cell_aside _ (by dsimp only; omega) (cell_aside _ (by dsimp only; omega) t2))))⟩
        clear hK KK
        try simp only [Act.put, zq1, zq2, zq3, zq4, zq5, zq6]
        refine wT (i := 16) (v := .int .i64 5) rfl (Or.inl ⟨by rfl, ?_⟩) hHeld ?_
        · intro wq hSw
          try dsimp only at hSw
          go_simp
        try simp only [Act.put, zq1, zq2, zq3, zq4, zq5, zq6]
        refine wpAnyH_done (by kernel_rfl) ?_ _
        clear hHeld
        have KF := hide (((((unhide K).setNew (p := ⟨w.heap.size + 1, 0, none⟩) (by simp) (.int .i64 1)).setNew (p := ⟨w.heap.size + 1, 1, none⟩) (by simp) (.bool sM)).setNew (p := ⟨w.heap.size + 1, 2, none⟩) (by simp) (.int .i64 (VV : Int))).setNew (p := ⟨w.heap.size + 1, 3, none⟩) (by simp) (.int .i64 (-1074)))
        clear r6 r9 K 
        try go_wp2_with fail
        exact bodyPost_ret (v := .tuple #[.agg #[.int .i64 1, .bool sM, .int .i64 (VV : Int), .int .i64 (-1074)], .int .i64 5]) (by simp [results, Tryz.results62, go_sem, q0, q1, q2, q3, or_14s]) rfl ⟨by rw [unhide FA, unhide FF], unhide KF⟩
      · obtain ⟨g1, g2⟩ := unhide HF2 (TR - 53) (by omega)
        have hq := flI_le R (-1074) hRb
        rw [g2] at f1 hq
        have FA := hide f1
        have FF := hide f2
        clear f1 f2 g2 HF2
        obtain ⟨NK, hNK⟩ : ∃ K : Nat, eM - (TR - 53) = K := ⟨(eM - (TR - 53)).toNat, by omega⟩
        have hkb : NK ≤ 800000 := by omega
        have hwk : IntKind.i64.wrap (eM - (TR - 53)) = (NK : Int) := by rw [w64 _ (by omega) (by omega)]; exact hNK
        have hkk : (eM - (TR - 53)).toNat = NK := by omega
        rw [hkk] at FA hq
        dsimp only at hq
        clear hkk hNK
        go_wp2_with fail
        obtain ⟨VV, hVV⟩ : ∃ y, (val zM).toNat * 2 ^ NK = y := ⟨_, rfl⟩
        rw [hVV] at FA hq
        have hVb : VV ≤ 9007199254740992 := by omega
        clear hq
        have n_qf0 := qf0
        have n_q0 := q0
        have n_qf1 := qf1
        have n_q1 := q1
        have n_qf2 := qf2
        have n_q2 := q2
        have n_qf3 := qf3
        have n_q3 := q3
        have kd := (Kept.refl 0 0 w12).drew
        replace r6 := r6.kept kd (.inr (.inr (Nat.le_refl 0)))
        replace qf0 := kd.loose0 (World.block_lt_of_cell? _ _ q0) qf0
        replace qf1 := kd.loose0 (World.block_lt_of_cell? _ _ q1) qf1
        replace qf2 := kd.loose0 (World.block_lt_of_cell? _ _ q2) qf2
        replace qf3 := kd.loose0 (World.block_lt_of_cell? _ _ q3) qf3
        replace p0 := kd.cell0 p0
        replace p1 := kd.cell0 p1
        replace p2 := kd.cell0 p2
        replace q0 := kd.cell0 q0
        replace q1 := kd.cell0 q1
        replace q2 := kd.cell0 q2
        replace q3 := kd.cell0 q3
        replace t0 := kd.cell0 t0
        replace t1 := kd.cell0 t1
        replace t2 := kd.cell0 t2
        replace K := hide ((unhide K).trans kd)
        have z14 := kd.size
        clear kd
        refine wp_region_held_drew (S := (fun w' => w'.cell? ⟨w3.heap.size, 0, none⟩ = some (.bool sM) ∧ w'.cell? ⟨w3.heap.size, 1, none⟩ = some (.slice a6 zM.length c6) ∧ w'.cell? ⟨w3.heap.size, 2, none⟩ = some (.int .i64 eM))) (by kernel_rfl) ?_ (fun hHeld => ?_)
        · exact ⟨t0, t1, t2⟩
        refine wT (i := 0) (v := .pointer (some ⟨w3.heap.size, 0, none⟩)) rfl (Or.inl ⟨by rfl, ?_⟩) hHeld ?_
        · intro wq hSw
          try dsimp only at hSw
          go_simp
        try simp only [Act.put, zq1, zq2, zq3, zq4, zq5, zq6]
        refine wT (i := 1) (v := .pointer (some ⟨w3.heap.size, 0, none⟩)) rfl (Or.inl ⟨by rfl, ?_⟩) hHeld ?_
        · intro wq hSw
          try dsimp only at hSw
          go_simp
        try simp only [Act.put, zq1, zq2, zq3, zq4, zq5, zq6]
        refine wT (i := 2) (v := .bool sM) rfl (Or.inl ⟨by rfl, ?_⟩) hHeld ?_
        · intro wq hSw
          try dsimp only at hSw
          go_simp
        try simp only [Act.put, zq1, zq2, zq3, zq4, zq5, zq6]
        refine wT (i := 3) (v := .pointer (some ⟨w3.heap.size, 0, none⟩)) rfl (Or.inl ⟨by rfl, ?_⟩) hHeld ?_
        · intro wq hSw
          try dsimp only at hSw
          go_simp
        try simp only [Act.put, zq1, zq2, zq3, zq4, zq5, zq6]
        refine wT (i := 4) (v := .pointer (some ⟨w3.heap.size, 1, none⟩)) rfl (Or.inl ⟨by rfl, ?_⟩) hHeld ?_
        · intro wq hSw
          try dsimp only at hSw
          go_simp
        try simp only [Act.put, zq1, zq2, zq3, zq4, zq5, zq6]
        refine wT (i := 5) (v := .agg #[.slice a6 zM.length c6]) rfl (Or.inl ⟨by rfl, ?_⟩) hHeld ?_
        · intro wq hSw
          try dsimp only at hSw
          go_simp
        try simp only [Act.put, zq1, zq2, zq3, zq4, zq5, zq6]
        refine wT (i := 6) (v := .pointer (some ⟨w3.heap.size, 2, none⟩)) rfl (Or.inl ⟨by rfl, ?_⟩) hHeld ?_
        · intro wq hSw
          try dsimp only at hSw
          go_simp
        try simp only [Act.put, zq1, zq2, zq3, zq4, zq5, zq6]
        refine wT (i := 7) (v := .int .i64 eM) rfl (Or.inl ⟨by rfl, ?_⟩) hHeld ?_
        · intro wq hSw
          try dsimp only at hSw
          go_simp
        try simp only [Act.put, zq1, zq2, zq3, zq4, zq5, zq6]
        refine wT (i := 8) (v := .int .i64 (TR - 53)) rfl (Or.inl ⟨by rfl, ?_⟩) hHeld ?_
        · intro wq hSw
          try dsimp only at hSw
          go_simp
        try simp only [Act.put, zq1, zq2, zq3, zq4, zq5, zq6]
        refine wT (i := 9) (v := .int .i64 (NK : Int)) rfl (Or.inl ⟨by rfl, ?_⟩) hHeld ?_
        · intro wq hSw
          try dsimp only at hSw
          go_simp
        try simp only [Act.put, zq1, zq2, zq3, zq4, zq5, zq6]
        refine wT (i := 12) (v := .int .i64 (TR - 53)) rfl (Or.inl ⟨by rfl, ?_⟩) hHeld ?_
        · intro wq hSw
          try dsimp only at hSw
          go_simp
        try simp only [Act.put, zq1, zq2, zq3, zq4, zq5, zq6]
        refine wT (i := 14) (v := .int .i64 5) rfl (Or.inl ⟨by rfl, ?_⟩) hHeld ?_
        · intro wq hSw
          try dsimp only at hSw
          go_simp
        try simp only [Act.put, zq1, zq2, zq3, zq4, zq5, zq6]
        refine wR 10 (by kernel_rfl) rfl (fun KK hK => ?_)
        simp only [zq1, zq2, zq3]
        rw [if_pos (by rfl)]
        refine wps2 108 (.tmp 95) (.tmp 99) _ rfl in_l2shl_r (.agg #[.slice a6 zM.length c6]) (.int .i64 (NK : Int)) rfl rfl (shl_spec _ r6 lM.1 (by omega) NK (.inr hkb) (by omega)) ?_
        rintro e w15 ⟨v9, rfl, r9, k15⟩
        refine ⟨_, rfl, ?_⟩
        replace r6 := r6.kept k15 (.inr (.inr (Nat.le_refl 0)))
        replace qf0 := k15.loose0 (World.block_lt_of_cell? _ _ q0) qf0
        replace qf1 := k15.loose0 (World.block_lt_of_cell? _ _ q1) qf1
        replace qf2 := k15.loose0 (World.block_lt_of_cell? _ _ q2) qf2
        replace qf3 := k15.loose0 (World.block_lt_of_cell? _ _ q3) qf3
        replace p0 := k15.cell0 p0
        replace p1 := k15.cell0 p1
        replace p2 := k15.cell0 p2
        replace q0 := k15.cell0 q0
        replace q1 := k15.cell0 q1
        replace q2 := k15.cell0 q2
        replace q3 := k15.cell0 q3
        replace t0 := k15.cell0 t0
        replace t1 := k15.cell0 t1
        replace t2 := k15.cell0 t2
        replace K := hide ((unhide K).trans k15)
        have z16 := k15.size
        clear k15
        clear hHeld
        refine hK.out _ _ ?_ (fun hHeld => ?_)
        · exact ⟨t0, t1, t2⟩
        clear hK KK
        try simp only [Act.put, zq1, zq2, zq3, zq4, zq5, zq6]
        rw [hVV] at r9
        obtain ⟨a9, c9, hv⟩ := Row.form' r9
        subst hv
        refine wR 11 (by kernel_rfl) rfl (fun KK hK => ?_)
        simp only [zq1, zq2, zq3]
        rw [if_pos (by rfl)]
        refine wps1 107 (.tmp 100) _ rfl in_l2int_r (.agg #[.slice a9 (limbs VV).length c9]) rfl (int_spec _ r9 (limbs_lim _) (by rw [limbs_val]; omega)) ?_
        rintro e w17 ⟨rfl, k17⟩
        refine ⟨_, rfl, ?_⟩
        replace r6 := r6.kept k17 (.inr (.inr (Nat.le_refl 0)))
        replace r9 := r9.kept k17 (.inr (.inr (Nat.le_refl 0)))
        replace qf0 := k17.loose0 (World.block_lt_of_cell? _ _ q0) qf0
        replace qf1 := k17.loose0 (World.block_lt_of_cell? _ _ q1) qf1
        replace qf2 := k17.loose0 (World.block_lt_of_cell? _ _ q2) qf2
        replace qf3 := k17.loose0 (World.block_lt_of_cell? _ _ q3) qf3
        replace p0 := k17.cell0 p0
        replace p1 := k17.cell0 p1
        replace p2 := k17.cell0 p2
        replace q0 := k17.cell0 q0
        replace q1 := k17.cell0 q1
        replace q2 := k17.cell0 q2
        replace q3 := k17.cell0 q3
        replace t0 := k17.cell0 t0
        replace t1 := k17.cell0 t1
        replace t2 := k17.cell0 t2
        replace K := hide ((unhide K).trans k17)
        have z18 := k17.size
        clear k17
        clear hHeld
        refine hK.out _ _ ?_ (fun hHeld => ?_)
        · exact ⟨t0, t1, t2⟩
        clear hK KK
        try simp only [Act.put, zq1, zq2, zq3, zq4, zq5, zq6]
        rw [limbs_val]
        refine wT (i := 13) (v := .agg #[.int .i64 1, .bool sM, .int .i64 (VV : Int), .int .i64 (TR - 53)]) rfl (Or.inl ⟨by rfl, ?_⟩) hHeld ?_
        · intro wq hSw
          try dsimp only at hSw
          go_simp
        try simp only [Act.put, zq1, zq2, zq3, zq4, zq5, zq6]
        refine wR 15 (by kernel_rfl) rfl (fun KK hK => ?_)
        simp only [zq1, zq2, zq3]
        rw [if_pos (by rfl)]
        go_simp
        clear hHeld
        refine hK.out _ _ ?_ (fun hHeld => ?_)
        · have sq := unhide S0; exact ⟨(cell_aside _ (by dsimp only; omega) (cell_aside _ (by dsimp only; omega) (cell_aside _ (by dsimp only; omega) (cell_aside _ (by dsimp only; omega) t0)))), (cell_aside _ (by dsimp only; omega) (cell_aside _ (by dsimp only; omega) (cell_aside _ (by dsimp only; omega) (cell_aside _ (by dsimp only; omega) t1)))), (cell_aside _ (by dsimp only; omega) (cell_aside _ (by dsimp only; omega) (cell_aside _ (by dsimp only; omega) (cell_aside _ (by dsimp only; omega) t2))))⟩
        clear hK KK
        try simp only [Act.put, zq1, zq2, zq3, zq4, zq5, zq6]
        refine wT (i := 16) (v := .int .i64 5) rfl (Or.inl ⟨by rfl, ?_⟩) hHeld ?_
        · intro wq hSw
          try dsimp only at hSw
          go_simp
        try simp only [Act.put, zq1, zq2, zq3, zq4, zq5, zq6]
        refine wpAnyH_done (by kernel_rfl) ?_ _
        clear hHeld
        have KF := hide (((((unhide K).setNew (p := ⟨w.heap.size + 1, 0, none⟩) (by simp) (.int .i64 1)).setNew (p := ⟨w.heap.size + 1, 1, none⟩) (by simp) (.bool sM)).setNew (p := ⟨w.heap.size + 1, 2, none⟩) (by simp) (.int .i64 (VV : Int))).setNew (p := ⟨w.heap.size + 1, 3, none⟩) (by simp) (.int .i64 (TR - 53)))
        clear r6 r9 K 
        try go_wp2_with fail
        exact bodyPost_ret (v := .tuple #[.agg #[.int .i64 1, .bool sM, .int .i64 (VV : Int), .int .i64 (TR - 53)], .int .i64 5]) (by simp [results, Tryz.results62, go_sem, q0, q1, q2, q3, or_14s]) rfl ⟨by rw [unhide FA, unhide FF], unhide KF⟩
    · have FGv : Hid (flF (val zs).toNat x = 0) := by show _ = _; rw [unhide FG]; simp
      clear FG
      clear r
      by_cases hR0 : R = 0
      · have hzl : ((zM.length : Int) == 0) = true := beq_iff_eq.2 (by have := (unhide HZ0).2 hR0; omega)
        have kn := (Kept.refl 0 0 w3).alloc (.cells #[.bool sM, .slice a6 zM.length c6, .int .i64 eM] 37)
        have t0 : (w3.alloc (.cells #[.bool sM, .slice a6 zM.length c6, .int .i64 eM] 37)).cell? ⟨w3.heap.size, 0, none⟩ = some (.bool sM) := new_cell2 _ _ _ _ _ _ (by simp) rfl
        have t1 : (w3.alloc (.cells #[.bool sM, .slice a6 zM.length c6, .int .i64 eM] 37)).cell? ⟨w3.heap.size, 1, none⟩ = some (.slice a6 zM.length c6) := new_cell2 _ _ _ _ _ _ (by simp) rfl
        have t2 : (w3.alloc (.cells #[.bool sM, .slice a6 zM.length c6, .int .i64 eM] 37)).cell? ⟨w3.heap.size, 2, none⟩ = some (.int .i64 eM) := new_cell2 _ _ _ _ _ _ (by simp) rfl
        have sz5 : w3.heap.size + 1 ≤ (w3.alloc (.cells #[.bool sM, .slice a6 zM.length c6, .int .i64 eM] 37)).heap.size := by simp
        replace r6 := r6.kept kn (.inr (.inr (Nat.le_refl 0)))
        replace qf0 := kn.loose0 (World.block_lt_of_cell? _ _ q0) qf0
        replace qf1 := kn.loose0 (World.block_lt_of_cell? _ _ q1) qf1
        replace qf2 := kn.loose0 (World.block_lt_of_cell? _ _ q2) qf2
        replace qf3 := kn.loose0 (World.block_lt_of_cell? _ _ q3) qf3
        replace p0 := kn.cell0 p0
        replace p1 := kn.cell0 p1
        replace p2 := kn.cell0 p2
        replace q0 := kn.cell0 q0
        replace q1 := kn.cell0 q1
        replace q2 := kn.cell0 q2
        replace q3 := kn.cell0 q3
        replace K := hide ((unhide K).trans kn)
        have z6 := kn.size
        clear kn
        go_wp2_with fail
        generalize (w3.alloc (.cells #[.bool sM, .slice a6 zM.length c6, .int .i64 eM] 37)) = wn7 at *
        have FA : Hid (A = (0, 0, 0) ∧ F = 0) := by
          have ht : topI (limbs R) (-1074) ≤ 1024 := by rw [hR0, topI_zero]; decide
          obtain ⟨f1, f2⟩ := unhide FI (by omega)
          exact ⟨by rw [f1]; unfold flI; rw [if_pos hR0], by rw [f2, unhide FGv]⟩
        clear FB FI HFIN hR0
        have KF := hide (((((unhide K).setNew (p := ⟨w.heap.size + 1, 0, none⟩) (by simp) (.int .i64 0)).setNew (p := ⟨w.heap.size + 1, 1, none⟩) (by simp) (.bool SS)).setNew (p := ⟨w.heap.size + 1, 2, none⟩) (by simp) (.int .i64 0)).setNew (p := ⟨w.heap.size + 1, 3, none⟩) (by simp) (.int .i64 0))
        clear r6 K 
        try go_wp2_with fail
        exact bodyPost_ret (v := .tuple #[.agg #[.int .i64 0, .bool SS, .int .i64 0, .int .i64 0], .int .i64 0]) (by simp [results, Tryz.results62, go_sem, q0, q1, q2, q3, or_14s]) rfl ⟨by rw [(unhide FA).1, (unhide FA).2], unhide KF⟩
      · have hzl : ((zM.length : Int) == 0) = false := beq_eq_false_iff_ne.2 (by have h := (unhide HZ0).1; omega)
        have kn := (Kept.refl 0 0 w3).alloc (.cells #[.bool sM, .slice a6 zM.length c6, .int .i64 eM] 37)
        have t0 : (w3.alloc (.cells #[.bool sM, .slice a6 zM.length c6, .int .i64 eM] 37)).cell? ⟨w3.heap.size, 0, none⟩ = some (.bool sM) := new_cell2 _ _ _ _ _ _ (by simp) rfl
        have t1 : (w3.alloc (.cells #[.bool sM, .slice a6 zM.length c6, .int .i64 eM] 37)).cell? ⟨w3.heap.size, 1, none⟩ = some (.slice a6 zM.length c6) := new_cell2 _ _ _ _ _ _ (by simp) rfl
        have t2 : (w3.alloc (.cells #[.bool sM, .slice a6 zM.length c6, .int .i64 eM] 37)).cell? ⟨w3.heap.size, 2, none⟩ = some (.int .i64 eM) := new_cell2 _ _ _ _ _ _ (by simp) rfl
        have sz5 : w3.heap.size + 1 ≤ (w3.alloc (.cells #[.bool sM, .slice a6 zM.length c6, .int .i64 eM] 37)).heap.size := by simp
        replace r6 := r6.kept kn (.inr (.inr (Nat.le_refl 0)))
        replace qf0 := kn.loose0 (World.block_lt_of_cell? _ _ q0) qf0
        replace qf1 := kn.loose0 (World.block_lt_of_cell? _ _ q1) qf1
        replace qf2 := kn.loose0 (World.block_lt_of_cell? _ _ q2) qf2
        replace qf3 := kn.loose0 (World.block_lt_of_cell? _ _ q3) qf3
        replace p0 := kn.cell0 p0
        replace p1 := kn.cell0 p1
        replace p2 := kn.cell0 p2
        replace q0 := kn.cell0 q0
        replace q1 := kn.cell0 q1
        replace q2 := kn.cell0 q2
        replace q3 := kn.cell0 q3
        replace K := hide ((unhide K).trans kn)
        have z6 := kn.size
        clear kn
        go_wp2_with fail
        generalize (w3.alloc (.cells #[.bool sM, .slice a6 zM.length c6, .int .i64 eM] 37)) = wn7 at *
        obtain ⟨hf1, hf2⟩ := unhide HFIN hR0
        have hsm := unhide HSM hR0
        subst hsm
        obtain ⟨TR, hTR⟩ : ∃ y, (-1074) + (bitsN R : Int) = y := ⟨_, rfl⟩
        rw [hTR] at hf1
        simp only [hTR] at hf2
        rw [topI_limbs hR0, hTR] at FB FI
        have HF2 := hide hf2
        clear hf2 HFIN
        have mt := top4_spec sM eM (by omega) (by omega) wn7 r6 lM (by omega)
        rw [hf1] at mt
        have hTRb : -2000 ≤ TR ∧ TR ≤ (-1000) := by have := (bitsN_le R 54).2 (Nat.lt_of_le_of_lt hRb (by decide)); omega
        have HTOP := hide hf1
        clear hf1 hTR
        refine (mt).mono ?_
        rintro e w8 ⟨rfl, k8⟩
        replace r6 := r6.kept k8 (.inr (.inr (Nat.le_refl 0)))
        replace qf0 := k8.loose0 (World.block_lt_of_cell? _ _ q0) qf0
        replace qf1 := k8.loose0 (World.block_lt_of_cell? _ _ q1) qf1
        replace qf2 := k8.loose0 (World.block_lt_of_cell? _ _ q2) qf2
        replace qf3 := k8.loose0 (World.block_lt_of_cell? _ _ q3) qf3
        replace p0 := k8.cell0 p0
        replace p1 := k8.cell0 p1
        replace p2 := k8.cell0 p2
        replace q0 := k8.cell0 q0
        replace q1 := k8.cell0 q1
        replace q2 := k8.cell0 q2
        replace q3 := k8.cell0 q3
        replace t0 := k8.cell0 t0
        replace t1 := k8.cell0 t1
        replace t2 := k8.cell0 t2
        replace K := hide ((unhide K).trans k8)
        have z9 := k8.size
        clear k8
        clear mt
        by_cases hbig : 1024 < TR
        · exact absurd hbig (by omega)
        go_wp2_with fail
        have mt := top4_spec sM eM (by omega) (by omega) w8 r6 lM (by omega)
        rw [unhide HTOP] at mt
        refine (mt).mono ?_
        rintro e w10 ⟨rfl, k10⟩
        replace r6 := r6.kept k10 (.inr (.inr (Nat.le_refl 0)))
        replace qf0 := k10.loose0 (World.block_lt_of_cell? _ _ q0) qf0
        replace qf1 := k10.loose0 (World.block_lt_of_cell? _ _ q1) qf1
        replace qf2 := k10.loose0 (World.block_lt_of_cell? _ _ q2) qf2
        replace qf3 := k10.loose0 (World.block_lt_of_cell? _ _ q3) qf3
        replace p0 := k10.cell0 p0
        replace p1 := k10.cell0 p1
        replace p2 := k10.cell0 p2
        replace q0 := k10.cell0 q0
        replace q1 := k10.cell0 q1
        replace q2 := k10.cell0 q2
        replace q3 := k10.cell0 q3
        replace t0 := k10.cell0 t0
        replace t1 := k10.cell0 t1
        replace t2 := k10.cell0 t2
        replace K := hide ((unhide K).trans k10)
        have z11 := k10.size
        clear k10
        clear mt
        obtain ⟨f1, f2⟩ := unhide FI (by omega)
        rw [unhide FGv] at f2
        have hw2 : IntKind.i64.wrap (TR - 53) = TR - 53 := w64 _ (by omega) (by omega)
        clear FB FI
        by_cases hlo2 : TR - 53 < -1074
        · obtain ⟨g1, g2⟩ := unhide HF2 (-1074) (by omega)
          have hq := flI_le R (-1074) hRb
          rw [g2] at f1 hq
          have FA := hide f1
          have FF := hide f2
          clear f1 f2 g2 HF2
          obtain ⟨NK, hNK⟩ : ∃ K : Nat, eM - (-1074) = K := ⟨(eM - (-1074)).toNat, by omega⟩
          have hkb : NK ≤ 800000 := by omega
          have hwk : IntKind.i64.wrap (eM - (-1074)) = (NK : Int) := by rw [w64 _ (by omega) (by omega)]; exact hNK
          have hkk : (eM - (-1074)).toNat = NK := by omega
          rw [hkk] at FA hq
          dsimp only at hq
          clear hkk hNK
          have hwk2 : IntKind.i64.wrap (eM + 1074) = (NK : Int) := by rw [← hwk]; congr 1
          skip
          go_wp2_with fail
          obtain ⟨VV, hVV⟩ : ∃ y, (val zM).toNat * 2 ^ NK = y := ⟨_, rfl⟩
          rw [hVV] at FA hq
          have hVb : VV ≤ 9007199254740992 := by omega
          clear hq
          have n_qf0 := qf0
          have n_q0 := q0
          have n_qf1 := qf1
          have n_q1 := q1
          have n_qf2 := qf2
          have n_q2 := q2
          have n_qf3 := qf3
          have n_q3 := q3
          have kd := (Kept.refl 0 0 w10).drew
          replace r6 := r6.kept kd (.inr (.inr (Nat.le_refl 0)))
          replace qf0 := kd.loose0 (World.block_lt_of_cell? _ _ q0) qf0
          replace qf1 := kd.loose0 (World.block_lt_of_cell? _ _ q1) qf1
          replace qf2 := kd.loose0 (World.block_lt_of_cell? _ _ q2) qf2
          replace qf3 := kd.loose0 (World.block_lt_of_cell? _ _ q3) qf3
          replace p0 := kd.cell0 p0
          replace p1 := kd.cell0 p1
          replace p2 := kd.cell0 p2
          replace q0 := kd.cell0 q0
          replace q1 := kd.cell0 q1
          replace q2 := kd.cell0 q2
          replace q3 := kd.cell0 q3
          replace t0 := kd.cell0 t0
          replace t1 := kd.cell0 t1
          replace t2 := kd.cell0 t2
          replace K := hide ((unhide K).trans kd)
          have z12 := kd.size
          clear kd
          refine wp_region_held_drew (S := (fun w' => w'.cell? ⟨w3.heap.size, 0, none⟩ = some (.bool sM) ∧ w'.cell? ⟨w3.heap.size, 1, none⟩ = some (.slice a6 zM.length c6) ∧ w'.cell? ⟨w3.heap.size, 2, none⟩ = some (.int .i64 eM))) (by kernel_rfl) ?_ (fun hHeld => ?_)
          · exact ⟨t0, t1, t2⟩
          refine wT (i := 0) (v := .pointer (some ⟨w3.heap.size, 0, none⟩)) rfl (Or.inl ⟨by rfl, ?_⟩) hHeld ?_
          · intro wq hSw
            try dsimp only at hSw
            go_simp
          try simp only [Act.put, zq1, zq2, zq3, zq4, zq5, zq6]
          refine wT (i := 1) (v := .pointer (some ⟨w3.heap.size, 0, none⟩)) rfl (Or.inl ⟨by rfl, ?_⟩) hHeld ?_
          · intro wq hSw
            try dsimp only at hSw
            go_simp
          try simp only [Act.put, zq1, zq2, zq3, zq4, zq5, zq6]
          refine wT (i := 2) (v := .bool sM) rfl (Or.inl ⟨by rfl, ?_⟩) hHeld ?_
          · intro wq hSw
            try dsimp only at hSw
            go_simp
          try simp only [Act.put, zq1, zq2, zq3, zq4, zq5, zq6]
          refine wT (i := 3) (v := .pointer (some ⟨w3.heap.size, 0, none⟩)) rfl (Or.inl ⟨by rfl, ?_⟩) hHeld ?_
          · intro wq hSw
            try dsimp only at hSw
            go_simp
          try simp only [Act.put, zq1, zq2, zq3, zq4, zq5, zq6]
          refine wT (i := 4) (v := .pointer (some ⟨w3.heap.size, 1, none⟩)) rfl (Or.inl ⟨by rfl, ?_⟩) hHeld ?_
          · intro wq hSw
            try dsimp only at hSw
            go_simp
          try simp only [Act.put, zq1, zq2, zq3, zq4, zq5, zq6]
          refine wT (i := 5) (v := .agg #[.slice a6 zM.length c6]) rfl (Or.inl ⟨by rfl, ?_⟩) hHeld ?_
          · intro wq hSw
            try dsimp only at hSw
            go_simp
          try simp only [Act.put, zq1, zq2, zq3, zq4, zq5, zq6]
          refine wT (i := 6) (v := .pointer (some ⟨w3.heap.size, 2, none⟩)) rfl (Or.inl ⟨by rfl, ?_⟩) hHeld ?_
          · intro wq hSw
            try dsimp only at hSw
            go_simp
          try simp only [Act.put, zq1, zq2, zq3, zq4, zq5, zq6]
          refine wT (i := 7) (v := .int .i64 eM) rfl (Or.inl ⟨by rfl, ?_⟩) hHeld ?_
          · intro wq hSw
            try dsimp only at hSw
            go_simp
          try simp only [Act.put, zq1, zq2, zq3, zq4, zq5, zq6]
          refine wT (i := 8) (v := .int .i64 (-1074)) rfl (Or.inl ⟨by rfl, ?_⟩) hHeld ?_
          · intro wq hSw
            try dsimp only at hSw
            go_simp
          try simp only [Act.put, zq1, zq2, zq3, zq4, zq5, zq6]
          refine wT (i := 9) (v := .int .i64 (NK : Int)) rfl (Or.inl ⟨by rfl, ?_⟩) hHeld ?_
          · intro wq hSw
            try dsimp only at hSw
            go_simp
          try simp only [Act.put, zq1, zq2, zq3, zq4, zq5, zq6]
          refine wT (i := 12) (v := .int .i64 (-1074)) rfl (Or.inl ⟨by rfl, ?_⟩) hHeld ?_
          · intro wq hSw
            try dsimp only at hSw
            go_simp
          try simp only [Act.put, zq1, zq2, zq3, zq4, zq5, zq6]
          refine wT (i := 14) (v := .int .i64 0) rfl (Or.inl ⟨by rfl, ?_⟩) hHeld ?_
          · intro wq hSw
            try dsimp only at hSw
            go_simp
          try simp only [Act.put, zq1, zq2, zq3, zq4, zq5, zq6]
          refine wR 10 (by kernel_rfl) rfl (fun KK hK => ?_)
          simp only [zq1, zq2, zq3]
          rw [if_pos (by rfl)]
          refine wps2 108 (.tmp 95) (.tmp 99) _ rfl in_l2shl_r (.agg #[.slice a6 zM.length c6]) (.int .i64 (NK : Int)) rfl rfl (shl_spec _ r6 lM.1 (by omega) NK (.inr hkb) (by omega)) ?_
          rintro e w13 ⟨v9, rfl, r9, k13⟩
          refine ⟨_, rfl, ?_⟩
          replace r6 := r6.kept k13 (.inr (.inr (Nat.le_refl 0)))
          replace qf0 := k13.loose0 (World.block_lt_of_cell? _ _ q0) qf0
          replace qf1 := k13.loose0 (World.block_lt_of_cell? _ _ q1) qf1
          replace qf2 := k13.loose0 (World.block_lt_of_cell? _ _ q2) qf2
          replace qf3 := k13.loose0 (World.block_lt_of_cell? _ _ q3) qf3
          replace p0 := k13.cell0 p0
          replace p1 := k13.cell0 p1
          replace p2 := k13.cell0 p2
          replace q0 := k13.cell0 q0
          replace q1 := k13.cell0 q1
          replace q2 := k13.cell0 q2
          replace q3 := k13.cell0 q3
          replace t0 := k13.cell0 t0
          replace t1 := k13.cell0 t1
          replace t2 := k13.cell0 t2
          replace K := hide ((unhide K).trans k13)
          have z14 := k13.size
          clear k13
          clear hHeld
          refine hK.out _ _ ?_ (fun hHeld => ?_)
          · exact ⟨t0, t1, t2⟩
          clear hK KK
          try simp only [Act.put, zq1, zq2, zq3, zq4, zq5, zq6]
          rw [hVV] at r9
          obtain ⟨a9, c9, hv⟩ := Row.form' r9
          subst hv
          refine wR 11 (by kernel_rfl) rfl (fun KK hK => ?_)
          simp only [zq1, zq2, zq3]
          rw [if_pos (by rfl)]
          refine wps1 107 (.tmp 100) _ rfl in_l2int_r (.agg #[.slice a9 (limbs VV).length c9]) rfl (int_spec _ r9 (limbs_lim _) (by rw [limbs_val]; omega)) ?_
          rintro e w15 ⟨rfl, k15⟩
          refine ⟨_, rfl, ?_⟩
          replace r6 := r6.kept k15 (.inr (.inr (Nat.le_refl 0)))
          replace r9 := r9.kept k15 (.inr (.inr (Nat.le_refl 0)))
          replace qf0 := k15.loose0 (World.block_lt_of_cell? _ _ q0) qf0
          replace qf1 := k15.loose0 (World.block_lt_of_cell? _ _ q1) qf1
          replace qf2 := k15.loose0 (World.block_lt_of_cell? _ _ q2) qf2
          replace qf3 := k15.loose0 (World.block_lt_of_cell? _ _ q3) qf3
          replace p0 := k15.cell0 p0
          replace p1 := k15.cell0 p1
          replace p2 := k15.cell0 p2
          replace q0 := k15.cell0 q0
          replace q1 := k15.cell0 q1
          replace q2 := k15.cell0 q2
          replace q3 := k15.cell0 q3
          replace t0 := k15.cell0 t0
          replace t1 := k15.cell0 t1
          replace t2 := k15.cell0 t2
          replace K := hide ((unhide K).trans k15)
          have z16 := k15.size
          clear k15
          clear hHeld
          refine hK.out _ _ ?_ (fun hHeld => ?_)
          · exact ⟨t0, t1, t2⟩
          clear hK KK
          try simp only [Act.put, zq1, zq2, zq3, zq4, zq5, zq6]
          rw [limbs_val]
          refine wT (i := 13) (v := .agg #[.int .i64 1, .bool sM, .int .i64 (VV : Int), .int .i64 (-1074)]) rfl (Or.inl ⟨by rfl, ?_⟩) hHeld ?_
          · intro wq hSw
            try dsimp only at hSw
            go_simp
          try simp only [Act.put, zq1, zq2, zq3, zq4, zq5, zq6]
          refine wR 15 (by kernel_rfl) rfl (fun KK hK => ?_)
          simp only [zq1, zq2, zq3]
          rw [if_pos (by rfl)]
          go_simp
          clear hHeld
          refine hK.out _ _ ?_ (fun hHeld => ?_)
          · have sq := unhide S0; exact ⟨(cell_aside _ (by dsimp only; omega) (cell_aside _ (by dsimp only; omega) (cell_aside _ (by dsimp only; omega) (cell_aside _ (by dsimp only; omega) t0)))), (cell_aside _ (by dsimp only; omega) (cell_aside _ (by dsimp only; omega) (cell_aside _ (by dsimp only; omega) (cell_aside _ (by dsimp only; omega) t1)))), (cell_aside _ (by dsimp only; omega) (cell_aside _ (by dsimp only; omega) (cell_aside _ (by dsimp only; omega) (cell_aside _ (by dsimp only; omega) t2))))⟩
          clear hK KK
          try simp only [Act.put, zq1, zq2, zq3, zq4, zq5, zq6]
          refine wT (i := 16) (v := .int .i64 0) rfl (Or.inl ⟨by rfl, ?_⟩) hHeld ?_
          · intro wq hSw
            try dsimp only at hSw
            go_simp
          try simp only [Act.put, zq1, zq2, zq3, zq4, zq5, zq6]
          refine wpAnyH_done (by kernel_rfl) ?_ _
          clear hHeld
          have KF := hide (((((unhide K).setNew (p := ⟨w.heap.size + 1, 0, none⟩) (by simp) (.int .i64 1)).setNew (p := ⟨w.heap.size + 1, 1, none⟩) (by simp) (.bool sM)).setNew (p := ⟨w.heap.size + 1, 2, none⟩) (by simp) (.int .i64 (VV : Int))).setNew (p := ⟨w.heap.size + 1, 3, none⟩) (by simp) (.int .i64 (-1074)))
          clear r6 r9 K 
          try go_wp2_with fail
          exact bodyPost_ret (v := .tuple #[.agg #[.int .i64 1, .bool sM, .int .i64 (VV : Int), .int .i64 (-1074)], .int .i64 0]) (by simp [results, Tryz.results62, go_sem, q0, q1, q2, q3, or_14s]) rfl ⟨by rw [unhide FA, unhide FF], unhide KF⟩
        · obtain ⟨g1, g2⟩ := unhide HF2 (TR - 53) (by omega)
          have hq := flI_le R (-1074) hRb
          rw [g2] at f1 hq
          have FA := hide f1
          have FF := hide f2
          clear f1 f2 g2 HF2
          obtain ⟨NK, hNK⟩ : ∃ K : Nat, eM - (TR - 53) = K := ⟨(eM - (TR - 53)).toNat, by omega⟩
          have hkb : NK ≤ 800000 := by omega
          have hwk : IntKind.i64.wrap (eM - (TR - 53)) = (NK : Int) := by rw [w64 _ (by omega) (by omega)]; exact hNK
          have hkk : (eM - (TR - 53)).toNat = NK := by omega
          rw [hkk] at FA hq
          dsimp only at hq
          clear hkk hNK
          go_wp2_with fail
          obtain ⟨VV, hVV⟩ : ∃ y, (val zM).toNat * 2 ^ NK = y := ⟨_, rfl⟩
          rw [hVV] at FA hq
          have hVb : VV ≤ 9007199254740992 := by omega
          clear hq
          have n_qf0 := qf0
          have n_q0 := q0
          have n_qf1 := qf1
          have n_q1 := q1
          have n_qf2 := qf2
          have n_q2 := q2
          have n_qf3 := qf3
          have n_q3 := q3
          have kd := (Kept.refl 0 0 w10).drew
          replace r6 := r6.kept kd (.inr (.inr (Nat.le_refl 0)))
          replace qf0 := kd.loose0 (World.block_lt_of_cell? _ _ q0) qf0
          replace qf1 := kd.loose0 (World.block_lt_of_cell? _ _ q1) qf1
          replace qf2 := kd.loose0 (World.block_lt_of_cell? _ _ q2) qf2
          replace qf3 := kd.loose0 (World.block_lt_of_cell? _ _ q3) qf3
          replace p0 := kd.cell0 p0
          replace p1 := kd.cell0 p1
          replace p2 := kd.cell0 p2
          replace q0 := kd.cell0 q0
          replace q1 := kd.cell0 q1
          replace q2 := kd.cell0 q2
          replace q3 := kd.cell0 q3
          replace t0 := kd.cell0 t0
          replace t1 := kd.cell0 t1
          replace t2 := kd.cell0 t2
          replace K := hide ((unhide K).trans kd)
          have z12 := kd.size
          clear kd
          refine wp_region_held_drew (S := (fun w' => w'.cell? ⟨w3.heap.size, 0, none⟩ = some (.bool sM) ∧ w'.cell? ⟨w3.heap.size, 1, none⟩ = some (.slice a6 zM.length c6) ∧ w'.cell? ⟨w3.heap.size, 2, none⟩ = some (.int .i64 eM))) (by kernel_rfl) ?_ (fun hHeld => ?_)
          · exact ⟨t0, t1, t2⟩
          refine wT (i := 0) (v := .pointer (some ⟨w3.heap.size, 0, none⟩)) rfl (Or.inl ⟨by rfl, ?_⟩) hHeld ?_
          · intro wq hSw
            try dsimp only at hSw
            go_simp
          try simp only [Act.put, zq1, zq2, zq3, zq4, zq5, zq6]
          refine wT (i := 1) (v := .pointer (some ⟨w3.heap.size, 0, none⟩)) rfl (Or.inl ⟨by rfl, ?_⟩) hHeld ?_
          · intro wq hSw
            try dsimp only at hSw
            go_simp
          try simp only [Act.put, zq1, zq2, zq3, zq4, zq5, zq6]
          refine wT (i := 2) (v := .bool sM) rfl (Or.inl ⟨by rfl, ?_⟩) hHeld ?_
          · intro wq hSw
            try dsimp only at hSw
            go_simp
          try simp only [Act.put, zq1, zq2, zq3, zq4, zq5, zq6]
          refine wT (i := 3) (v := .pointer (some ⟨w3.heap.size, 0, none⟩)) rfl (Or.inl ⟨by rfl, ?_⟩) hHeld ?_
          · intro wq hSw
            try dsimp only at hSw
            go_simp
          try simp only [Act.put, zq1, zq2, zq3, zq4, zq5, zq6]
          refine wT (i := 4) (v := .pointer (some ⟨w3.heap.size, 1, none⟩)) rfl (Or.inl ⟨by rfl, ?_⟩) hHeld ?_
          · intro wq hSw
            try dsimp only at hSw
            go_simp
          try simp only [Act.put, zq1, zq2, zq3, zq4, zq5, zq6]
          refine wT (i := 5) (v := .agg #[.slice a6 zM.length c6]) rfl (Or.inl ⟨by rfl, ?_⟩) hHeld ?_
          · intro wq hSw
            try dsimp only at hSw
            go_simp
          try simp only [Act.put, zq1, zq2, zq3, zq4, zq5, zq6]
          refine wT (i := 6) (v := .pointer (some ⟨w3.heap.size, 2, none⟩)) rfl (Or.inl ⟨by rfl, ?_⟩) hHeld ?_
          · intro wq hSw
            try dsimp only at hSw
            go_simp
          try simp only [Act.put, zq1, zq2, zq3, zq4, zq5, zq6]
          refine wT (i := 7) (v := .int .i64 eM) rfl (Or.inl ⟨by rfl, ?_⟩) hHeld ?_
          · intro wq hSw
            try dsimp only at hSw
            go_simp
          try simp only [Act.put, zq1, zq2, zq3, zq4, zq5, zq6]
          refine wT (i := 8) (v := .int .i64 (TR - 53)) rfl (Or.inl ⟨by rfl, ?_⟩) hHeld ?_
          · intro wq hSw
            try dsimp only at hSw
            go_simp
          try simp only [Act.put, zq1, zq2, zq3, zq4, zq5, zq6]
          refine wT (i := 9) (v := .int .i64 (NK : Int)) rfl (Or.inl ⟨by rfl, ?_⟩) hHeld ?_
          · intro wq hSw
            try dsimp only at hSw
            go_simp
          try simp only [Act.put, zq1, zq2, zq3, zq4, zq5, zq6]
          refine wT (i := 12) (v := .int .i64 (TR - 53)) rfl (Or.inl ⟨by rfl, ?_⟩) hHeld ?_
          · intro wq hSw
            try dsimp only at hSw
            go_simp
          try simp only [Act.put, zq1, zq2, zq3, zq4, zq5, zq6]
          refine wT (i := 14) (v := .int .i64 0) rfl (Or.inl ⟨by rfl, ?_⟩) hHeld ?_
          · intro wq hSw
            try dsimp only at hSw
            go_simp
          try simp only [Act.put, zq1, zq2, zq3, zq4, zq5, zq6]
          refine wR 10 (by kernel_rfl) rfl (fun KK hK => ?_)
          simp only [zq1, zq2, zq3]
          rw [if_pos (by rfl)]
          refine wps2 108 (.tmp 95) (.tmp 99) _ rfl in_l2shl_r (.agg #[.slice a6 zM.length c6]) (.int .i64 (NK : Int)) rfl rfl (shl_spec _ r6 lM.1 (by omega) NK (.inr hkb) (by omega)) ?_
          rintro e w13 ⟨v9, rfl, r9, k13⟩
          refine ⟨_, rfl, ?_⟩
          replace r6 := r6.kept k13 (.inr (.inr (Nat.le_refl 0)))
          replace qf0 := k13.loose0 (World.block_lt_of_cell? _ _ q0) qf0
          replace qf1 := k13.loose0 (World.block_lt_of_cell? _ _ q1) qf1
          replace qf2 := k13.loose0 (World.block_lt_of_cell? _ _ q2) qf2
          replace qf3 := k13.loose0 (World.block_lt_of_cell? _ _ q3) qf3
          replace p0 := k13.cell0 p0
          replace p1 := k13.cell0 p1
          replace p2 := k13.cell0 p2
          replace q0 := k13.cell0 q0
          replace q1 := k13.cell0 q1
          replace q2 := k13.cell0 q2
          replace q3 := k13.cell0 q3
          replace t0 := k13.cell0 t0
          replace t1 := k13.cell0 t1
          replace t2 := k13.cell0 t2
          replace K := hide ((unhide K).trans k13)
          have z14 := k13.size
          clear k13
          clear hHeld
          refine hK.out _ _ ?_ (fun hHeld => ?_)
          · exact ⟨t0, t1, t2⟩
          clear hK KK
          try simp only [Act.put, zq1, zq2, zq3, zq4, zq5, zq6]
          rw [hVV] at r9
          obtain ⟨a9, c9, hv⟩ := Row.form' r9
          subst hv
          refine wR 11 (by kernel_rfl) rfl (fun KK hK => ?_)
          simp only [zq1, zq2, zq3]
          rw [if_pos (by rfl)]
          refine wps1 107 (.tmp 100) _ rfl in_l2int_r (.agg #[.slice a9 (limbs VV).length c9]) rfl (int_spec _ r9 (limbs_lim _) (by rw [limbs_val]; omega)) ?_
          rintro e w15 ⟨rfl, k15⟩
          refine ⟨_, rfl, ?_⟩
          replace r6 := r6.kept k15 (.inr (.inr (Nat.le_refl 0)))
          replace r9 := r9.kept k15 (.inr (.inr (Nat.le_refl 0)))
          replace qf0 := k15.loose0 (World.block_lt_of_cell? _ _ q0) qf0
          replace qf1 := k15.loose0 (World.block_lt_of_cell? _ _ q1) qf1
          replace qf2 := k15.loose0 (World.block_lt_of_cell? _ _ q2) qf2
          replace qf3 := k15.loose0 (World.block_lt_of_cell? _ _ q3) qf3
          replace p0 := k15.cell0 p0
          replace p1 := k15.cell0 p1
          replace p2 := k15.cell0 p2
          replace q0 := k15.cell0 q0
          replace q1 := k15.cell0 q1
          replace q2 := k15.cell0 q2
          replace q3 := k15.cell0 q3
          replace t0 := k15.cell0 t0
          replace t1 := k15.cell0 t1
          replace t2 := k15.cell0 t2
          replace K := hide ((unhide K).trans k15)
          have z16 := k15.size
          clear k15
          clear hHeld
          refine hK.out _ _ ?_ (fun hHeld => ?_)
          · exact ⟨t0, t1, t2⟩
          clear hK KK
          try simp only [Act.put, zq1, zq2, zq3, zq4, zq5, zq6]
          rw [limbs_val]
          refine wT (i := 13) (v := .agg #[.int .i64 1, .bool sM, .int .i64 (VV : Int), .int .i64 (TR - 53)]) rfl (Or.inl ⟨by rfl, ?_⟩) hHeld ?_
          · intro wq hSw
            try dsimp only at hSw
            go_simp
          try simp only [Act.put, zq1, zq2, zq3, zq4, zq5, zq6]
          refine wR 15 (by kernel_rfl) rfl (fun KK hK => ?_)
          simp only [zq1, zq2, zq3]
          rw [if_pos (by rfl)]
          go_simp
          clear hHeld
          refine hK.out _ _ ?_ (fun hHeld => ?_)
          · have sq := unhide S0; exact ⟨(cell_aside _ (by dsimp only; omega) (cell_aside _ (by dsimp only; omega) (cell_aside _ (by dsimp only; omega) (cell_aside _ (by dsimp only; omega) t0)))), (cell_aside _ (by dsimp only; omega) (cell_aside _ (by dsimp only; omega) (cell_aside _ (by dsimp only; omega) (cell_aside _ (by dsimp only; omega) t1)))), (cell_aside _ (by dsimp only; omega) (cell_aside _ (by dsimp only; omega) (cell_aside _ (by dsimp only; omega) (cell_aside _ (by dsimp only; omega) t2))))⟩
          clear hK KK
          try simp only [Act.put, zq1, zq2, zq3, zq4, zq5, zq6]
          refine wT (i := 16) (v := .int .i64 0) rfl (Or.inl ⟨by rfl, ?_⟩) hHeld ?_
          · intro wq hSw
            try dsimp only at hSw
            go_simp
          try simp only [Act.put, zq1, zq2, zq3, zq4, zq5, zq6]
          refine wpAnyH_done (by kernel_rfl) ?_ _
          clear hHeld
          have KF := hide (((((unhide K).setNew (p := ⟨w.heap.size + 1, 0, none⟩) (by simp) (.int .i64 1)).setNew (p := ⟨w.heap.size + 1, 1, none⟩) (by simp) (.bool sM)).setNew (p := ⟨w.heap.size + 1, 2, none⟩) (by simp) (.int .i64 (VV : Int))).setNew (p := ⟨w.heap.size + 1, 3, none⟩) (by simp) (.int .i64 (TR - 53)))
          clear r6 r9 K 
          try go_wp2_with fail
          exact bodyPost_ret (v := .tuple #[.agg #[.int .i64 1, .bool sM, .int .i64 (VV : Int), .int .i64 (TR - 53)], .int .i64 0]) (by simp [results, Tryz.results62, go_sem, q0, q1, q2, q3, or_14s]) rfl ⟨by rw [unhide FA, unhide FF], unhide KF⟩
  · have hlw : flLow (val zs).toNat x = (TT - 53) := by rw [hlow]; omega
    have lo2 : -1100 ≤ (TT - 53) ∧ (TT - 53) ≤ 180000 := by omega
    go_wp2_with fail
    have mr := round4_spec SS x (TT - 53) (by omega) (by omega) (by omega) (by omega) w1 r hn ho hz (by omega) mode (by omega) (by omega)
    obtain ⟨M, hM⟩ : ∃ y, rndM mode.toNat SS (val zs).toNat (x - ((TT - 53) - 1)) = y := ⟨_, rfl⟩
    obtain ⟨EX, hEX⟩ : ∃ y, rndX (scN (val zs).toNat (x - ((TT - 53) - 1))) (scL (val zs).toNat (x - ((TT - 53) - 1))) = y := ⟨_, rfl⟩
    rw [hM, hEX] at mr
    obtain ⟨R, hR⟩ : ∃ y, flR mode.toNat SS (val zs).toNat x = y := ⟨_, rfl⟩
    have hMR : M = wval SS (limbs R) := by rw [← hM, ← hR]; unfold rndM flR flH flL; rw [hlw]
    have hMa : M.natAbs = R := by rw [hMR, wval_abs (limbs_lim _), limbs_val, Int.toNat_natCast]
    have hX2 : flX (val zs).toNat x = EX := by rw [← hEX]; unfold flX flH flL; rw [hlw]
    have hRb : R ≤ 2 ^ 53 := by rw [← hR]; exact flR_le _ _ _ _
    have hRg : -1074 < (TT - 53) → 2 ^ 52 ≤ R := fun h => by rw [← hR]; exact flR_ge _ _ hVne (by rw [hlw]; exact h)
    have nR : (limbs R).length ≤ 4 := by
      refine (limbs_length_le _ _).2 ?_
      rw [show (65536 : Int) ^ 4 = 18446744073709551616 by decide]
      have : R ≤ 9007199254740992 := hRb
      omega
    have nM : (dlm M).length ≤ 4 := Nat.le_trans (dlm_len hMa) nR
    have FG : Hid (flF (val zs).toNat x = (if EX = true then 0 else if TT ≤ -1022 then 5 else 1)) := by show _ = _; unfold flF; rw [hX2, hT1]
    have FB : Hid (1024 < topI (limbs R) (TT - 53) → A = flO mode SS ∧ F = 3) := fun hb => by
      rw [← unhide HA, ← unhide HF]
      unfold flA flG
      rw [if_neg hVne, if_neg hVne, hR, hlw, if_pos hb, if_pos hb]
      exact ⟨rfl, rfl⟩
    have FI : Hid (¬ 1024 < topI (limbs R) (TT - 53) → A = flI R (TT - 53) ∧ F = flF (val zs).toNat x) := fun hb => by
      rw [← unhide HA, ← unhide HF]
      unfold flA flG
      rw [if_neg hVne, if_neg hVne, hR, hlw, if_neg hb, if_neg hb]
      exact ⟨rfl, rfl⟩
    have hdxb : dex M (TT - 53) ≤ 300000 ∧ -300000 ≤ dex M (TT - 53) := by
      unfold dex
      split
      · omega
      · rename_i h
        have := tz_lt (n := M.natAbs) (k := 54) (by omega) (by rw [hMa]; exact Nat.lt_of_le_of_lt hRb (by decide))
        omega
    have hfin := fun (h : R ≠ 0) => fl_fin (low := (TT - 53)) h hRb (by omega) hRg M hMa
    have hsM : R ≠ 0 → wsg M = SS := fun h => by
      rw [hMR]
      refine wn_sign ⟨limbs_nrm _, fun _ => ?_⟩
      have h1 := limbs_pos R
      rw [decide_eq_true (show 0 < R by omega)] at h1
      exact of_decide_eq_true h1
    have hz0 : (dlm M).length = 0 ↔ R = 0 := by rw [dlm_nil_iff]; omega
    have lM : Nrm (dlm M) := limbs_nrm _
    clear hM hR hEX hMR hX2 hRg hlw
    refine (mr).mono ?_
    rintro e w3 ⟨v6, rfl, r6, k3⟩
    replace r := r.kept k3 (.inr (.inr (Nat.le_refl 0)))
    replace qf0 := k3.loose0 (World.block_lt_of_cell? _ _ q0) qf0
    replace qf1 := k3.loose0 (World.block_lt_of_cell? _ _ q1) qf1
    replace qf2 := k3.loose0 (World.block_lt_of_cell? _ _ q2) qf2
    replace qf3 := k3.loose0 (World.block_lt_of_cell? _ _ q3) qf3
    replace p0 := k3.cell0 p0
    replace p1 := k3.cell0 p1
    replace p2 := k3.cell0 p2
    replace q0 := k3.cell0 q0
    replace q1 := k3.cell0 q1
    replace q2 := k3.cell0 q2
    replace q3 := k3.cell0 q3
    replace K := hide ((unhide K).trans k3)
    have z4 := k3.size
    clear k3
    clear mr
    obtain ⟨a6, c6, hv⟩ := Row.form' r6
    subst hv
    obtain ⟨zM, hzM⟩ : ∃ y, dlm M = y := ⟨_, rfl⟩
    obtain ⟨eM, heM⟩ : ∃ y, dex M (TT - 53) = y := ⟨_, rfl⟩
    obtain ⟨sM, hsMe⟩ : ∃ y, wsg M = y := ⟨_, rfl⟩
    rw [hsMe, heM]
    simp only [hzM] at *
    simp only [heM] at *
    rw [hsMe] at hsM
    clear hzM heM hsMe
    have HFIN := hide hfin
    have HSM := hide hsM
    have HZ0 := hide hz0
    clear hfin hsM hz0
    cases EX
    · have kn := (Kept.refl 0 0 w3).alloc (.cells #[.bool sM, .slice a6 zM.length c6, .int .i64 eM] 37)
      have t0 : (w3.alloc (.cells #[.bool sM, .slice a6 zM.length c6, .int .i64 eM] 37)).cell? ⟨w3.heap.size, 0, none⟩ = some (.bool sM) := new_cell2 _ _ _ _ _ _ (by simp) rfl
      have t1 : (w3.alloc (.cells #[.bool sM, .slice a6 zM.length c6, .int .i64 eM] 37)).cell? ⟨w3.heap.size, 1, none⟩ = some (.slice a6 zM.length c6) := new_cell2 _ _ _ _ _ _ (by simp) rfl
      have t2 : (w3.alloc (.cells #[.bool sM, .slice a6 zM.length c6, .int .i64 eM] 37)).cell? ⟨w3.heap.size, 2, none⟩ = some (.int .i64 eM) := new_cell2 _ _ _ _ _ _ (by simp) rfl
      have sz5 : w3.heap.size + 1 ≤ (w3.alloc (.cells #[.bool sM, .slice a6 zM.length c6, .int .i64 eM] 37)).heap.size := by simp
      replace r := r.kept kn (.inr (.inr (Nat.le_refl 0)))
      replace r6 := r6.kept kn (.inr (.inr (Nat.le_refl 0)))
      replace qf0 := kn.loose0 (World.block_lt_of_cell? _ _ q0) qf0
      replace qf1 := kn.loose0 (World.block_lt_of_cell? _ _ q1) qf1
      replace qf2 := kn.loose0 (World.block_lt_of_cell? _ _ q2) qf2
      replace qf3 := kn.loose0 (World.block_lt_of_cell? _ _ q3) qf3
      replace p0 := kn.cell0 p0
      replace p1 := kn.cell0 p1
      replace p2 := kn.cell0 p2
      replace q0 := kn.cell0 q0
      replace q1 := kn.cell0 q1
      replace q2 := kn.cell0 q2
      replace q3 := kn.cell0 q3
      replace K := hide ((unhide K).trans kn)
      have z6 := kn.size
      clear kn
      go_wp2_with fail
      generalize (w3.alloc (.cells #[.bool sM, .slice a6 zM.length c6, .int .i64 eM] 37)) = wn7 at *
      have mt := top4_spec SS x (by omega) (by omega) wn7 r hn.1 (by omega)
      rw [hTT] at mt
      refine (mt).mono ?_
      rintro e w8 ⟨rfl, k8⟩
      replace r := r.kept k8 (.inr (.inr (Nat.le_refl 0)))
      replace r6 := r6.kept k8 (.inr (.inr (Nat.le_refl 0)))
      replace qf0 := k8.loose0 (World.block_lt_of_cell? _ _ q0) qf0
      replace qf1 := k8.loose0 (World.block_lt_of_cell? _ _ q1) qf1
      replace qf2 := k8.loose0 (World.block_lt_of_cell? _ _ q2) qf2
      replace qf3 := k8.loose0 (World.block_lt_of_cell? _ _ q3) qf3
      replace p0 := k8.cell0 p0
      replace p1 := k8.cell0 p1
      replace p2 := k8.cell0 p2
      replace q0 := k8.cell0 q0
      replace q1 := k8.cell0 q1
      replace q2 := k8.cell0 q2
      replace q3 := k8.cell0 q3
      replace t0 := k8.cell0 t0
      replace t1 := k8.cell0 t1
      replace t2 := k8.cell0 t2
      replace K := hide ((unhide K).trans k8)
      have z9 := k8.size
      clear k8
      clear mt
      clear r
      have hu : ¬ TT < -1021 := by omega
      have FGv : Hid (flF (val zs).toNat x = 1) := by show _ = _; rw [unhide FG]; simp [show ¬ TT ≤ -1022 by omega]
      clear FG
      by_cases hR0 : R = 0
      · have hzl : ((zM.length : Int) == 0) = true := beq_iff_eq.2 (by have := (unhide HZ0).2 hR0; omega)
        have FA : Hid (A = (0, 0, 0) ∧ F = 1) := by
          have ht : topI (limbs R) (TT - 53) ≤ 1024 := by rw [hR0, topI_zero]; decide
          obtain ⟨f1, f2⟩ := unhide FI (by omega)
          exact ⟨by rw [f1]; unfold flI; rw [if_pos hR0], by rw [f2, unhide FGv]⟩
        clear FB FI HFIN hR0
        have KF := hide (((((unhide K).setNew (p := ⟨w.heap.size + 1, 0, none⟩) (by simp) (.int .i64 0)).setNew (p := ⟨w.heap.size + 1, 1, none⟩) (by simp) (.bool SS)).setNew (p := ⟨w.heap.size + 1, 2, none⟩) (by simp) (.int .i64 0)).setNew (p := ⟨w.heap.size + 1, 3, none⟩) (by simp) (.int .i64 0))
        clear r6 K 
        try go_wp2_with fail
        exact bodyPost_ret (v := .tuple #[.agg #[.int .i64 0, .bool SS, .int .i64 0, .int .i64 0], .int .i64 1]) (by simp [results, Tryz.results62, go_sem, q0, q1, q2, q3, or_14s]) rfl ⟨by rw [(unhide FA).1, (unhide FA).2], unhide KF⟩
      have hzl : ((zM.length : Int) == 0) = false := beq_eq_false_iff_ne.2 (by have h := (unhide HZ0).1; omega)
      go_wp2_with fail
      obtain ⟨hf1, hf2⟩ := unhide HFIN hR0
      have hsm := unhide HSM hR0
      subst hsm
      obtain ⟨TR, hTR⟩ : ∃ y, (TT - 53) + (bitsN R : Int) = y := ⟨_, rfl⟩
      rw [hTR] at hf1
      simp only [hTR] at hf2
      rw [topI_limbs hR0, hTR] at FB FI
      have HF2 := hide hf2
      clear hf2 HFIN
      have mt := top4_spec sM eM (by omega) (by omega) w8 r6 lM (by omega)
      rw [hf1] at mt
      have hTRb : -2000 ≤ TR ∧ TR ≤ 190000 := by have := (bitsN_le R 54).2 (Nat.lt_of_le_of_lt hRb (by decide)); omega
      have HTOP := hide hf1
      clear hf1 hTR
      refine (mt).mono ?_
      rintro e w10 ⟨rfl, k10⟩
      replace r6 := r6.kept k10 (.inr (.inr (Nat.le_refl 0)))
      replace qf0 := k10.loose0 (World.block_lt_of_cell? _ _ q0) qf0
      replace qf1 := k10.loose0 (World.block_lt_of_cell? _ _ q1) qf1
      replace qf2 := k10.loose0 (World.block_lt_of_cell? _ _ q2) qf2
      replace qf3 := k10.loose0 (World.block_lt_of_cell? _ _ q3) qf3
      replace p0 := k10.cell0 p0
      replace p1 := k10.cell0 p1
      replace p2 := k10.cell0 p2
      replace q0 := k10.cell0 q0
      replace q1 := k10.cell0 q1
      replace q2 := k10.cell0 q2
      replace q3 := k10.cell0 q3
      replace t0 := k10.cell0 t0
      replace t1 := k10.cell0 t1
      replace t2 := k10.cell0 t2
      replace K := hide ((unhide K).trans k10)
      have z11 := k10.size
      clear k10
      clear mt
      by_cases hbig : 1024 < TR
      · obtain ⟨f1, f2⟩ := unhide FB (by omega)
        clear FB FI
        clear r6
        rcases mode5s hm0 hm4 with rfl | rfl | rfl | rfl | rfl <;> cases sM
        · have FA := hide f1
          have FF := hide f2
          clear f1 f2
          go_wp2_with fail
          exact bodyPost_ret (v := .tuple #[.agg #[.int .i64 2, .bool false, .int .i64 0, .int .i64 0], .int .i64 3]) (by simp [results, Tryz.results62, go_sem, q0, q1, q2, q3]) rfl ⟨by rw [unhide FA, unhide FF]; rfl, (((((unhide K).setNew (p := ⟨w.heap.size + 1, 0, none⟩) (by simp) (.int .i64 2)).setNew (p := ⟨w.heap.size + 1, 1, none⟩) (by simp) (.bool false)).setNew (p := ⟨w.heap.size + 1, 2, none⟩) (by simp) (.int .i64 0)).setNew (p := ⟨w.heap.size + 1, 3, none⟩) (by simp) (.int .i64 0))⟩
        · have FA := hide f1
          have FF := hide f2
          clear f1 f2
          go_wp2_with fail
          exact bodyPost_ret (v := .tuple #[.agg #[.int .i64 2, .bool true, .int .i64 0, .int .i64 0], .int .i64 3]) (by simp [results, Tryz.results62, go_sem, q0, q1, q2, q3]) rfl ⟨by rw [unhide FA, unhide FF]; rfl, (((((unhide K).setNew (p := ⟨w.heap.size + 1, 0, none⟩) (by simp) (.int .i64 2)).setNew (p := ⟨w.heap.size + 1, 1, none⟩) (by simp) (.bool true)).setNew (p := ⟨w.heap.size + 1, 2, none⟩) (by simp) (.int .i64 0)).setNew (p := ⟨w.heap.size + 1, 3, none⟩) (by simp) (.int .i64 0))⟩
        · have FA := hide f1
          have FF := hide f2
          clear f1 f2
          go_wp2_with fail
          refine (most_kept false _).mono ?_
          rintro e w12 ⟨rfl, k12⟩
          replace qf0 := k12.loose0 (World.block_lt_of_cell? _ _ q0) qf0
          replace qf1 := k12.loose0 (World.block_lt_of_cell? _ _ q1) qf1
          replace qf2 := k12.loose0 (World.block_lt_of_cell? _ _ q2) qf2
          replace qf3 := k12.loose0 (World.block_lt_of_cell? _ _ q3) qf3
          replace p0 := k12.cell0 p0
          replace p1 := k12.cell0 p1
          replace p2 := k12.cell0 p2
          replace q0 := k12.cell0 q0
          replace q1 := k12.cell0 q1
          replace q2 := k12.cell0 q2
          replace q3 := k12.cell0 q3
          replace t0 := k12.cell0 t0
          replace t1 := k12.cell0 t1
          replace t2 := k12.cell0 t2
          replace K := hide ((unhide K).trans k12)
          have z13 := k12.size
          clear k12
          have KF := hide (((((unhide K).setNew (p := ⟨w.heap.size + 1, 0, none⟩) (by simp) (.int .i64 1)).setNew (p := ⟨w.heap.size + 1, 1, none⟩) (by simp) (.bool false)).setNew (p := ⟨w.heap.size + 1, 2, none⟩) (by simp) (.int .i64 9007199254740991)).setNew (p := ⟨w.heap.size + 1, 3, none⟩) (by simp) (.int .i64 971))
          clear  K 
          try go_wp2_with fail
          exact bodyPost_ret (v := .tuple #[.agg #[.int .i64 1, .bool false, .int .i64 9007199254740991, .int .i64 971], .int .i64 3]) (by simp [results, Tryz.results62, go_sem, q0, q1, q2, q3, or_14s]) rfl ⟨by rw [unhide FA, unhide FF]; try rfl; try simp [flO, flOv], unhide KF⟩
        · have FA := hide f1
          have FF := hide f2
          clear f1 f2
          go_wp2_with fail
          refine (most_kept true _).mono ?_
          rintro e w12 ⟨rfl, k12⟩
          replace qf0 := k12.loose0 (World.block_lt_of_cell? _ _ q0) qf0
          replace qf1 := k12.loose0 (World.block_lt_of_cell? _ _ q1) qf1
          replace qf2 := k12.loose0 (World.block_lt_of_cell? _ _ q2) qf2
          replace qf3 := k12.loose0 (World.block_lt_of_cell? _ _ q3) qf3
          replace p0 := k12.cell0 p0
          replace p1 := k12.cell0 p1
          replace p2 := k12.cell0 p2
          replace q0 := k12.cell0 q0
          replace q1 := k12.cell0 q1
          replace q2 := k12.cell0 q2
          replace q3 := k12.cell0 q3
          replace t0 := k12.cell0 t0
          replace t1 := k12.cell0 t1
          replace t2 := k12.cell0 t2
          replace K := hide ((unhide K).trans k12)
          have z13 := k12.size
          clear k12
          have KF := hide (((((unhide K).setNew (p := ⟨w.heap.size + 1, 0, none⟩) (by simp) (.int .i64 1)).setNew (p := ⟨w.heap.size + 1, 1, none⟩) (by simp) (.bool true)).setNew (p := ⟨w.heap.size + 1, 2, none⟩) (by simp) (.int .i64 9007199254740991)).setNew (p := ⟨w.heap.size + 1, 3, none⟩) (by simp) (.int .i64 971))
          clear  K 
          try go_wp2_with fail
          exact bodyPost_ret (v := .tuple #[.agg #[.int .i64 1, .bool true, .int .i64 9007199254740991, .int .i64 971], .int .i64 3]) (by simp [results, Tryz.results62, go_sem, q0, q1, q2, q3, or_14s]) rfl ⟨by rw [unhide FA, unhide FF]; try rfl; try simp [flO, flOv], unhide KF⟩
        · have FA := hide f1
          have FF := hide f2
          clear f1 f2
          go_wp2_with fail
          exact bodyPost_ret (v := .tuple #[.agg #[.int .i64 2, .bool false, .int .i64 0, .int .i64 0], .int .i64 3]) (by simp [results, Tryz.results62, go_sem, q0, q1, q2, q3]) rfl ⟨by rw [unhide FA, unhide FF]; rfl, (((((unhide K).setNew (p := ⟨w.heap.size + 1, 0, none⟩) (by simp) (.int .i64 2)).setNew (p := ⟨w.heap.size + 1, 1, none⟩) (by simp) (.bool false)).setNew (p := ⟨w.heap.size + 1, 2, none⟩) (by simp) (.int .i64 0)).setNew (p := ⟨w.heap.size + 1, 3, none⟩) (by simp) (.int .i64 0))⟩
        · have FA := hide f1
          have FF := hide f2
          clear f1 f2
          go_wp2_with fail
          refine (most_kept true _).mono ?_
          rintro e w12 ⟨rfl, k12⟩
          replace qf0 := k12.loose0 (World.block_lt_of_cell? _ _ q0) qf0
          replace qf1 := k12.loose0 (World.block_lt_of_cell? _ _ q1) qf1
          replace qf2 := k12.loose0 (World.block_lt_of_cell? _ _ q2) qf2
          replace qf3 := k12.loose0 (World.block_lt_of_cell? _ _ q3) qf3
          replace p0 := k12.cell0 p0
          replace p1 := k12.cell0 p1
          replace p2 := k12.cell0 p2
          replace q0 := k12.cell0 q0
          replace q1 := k12.cell0 q1
          replace q2 := k12.cell0 q2
          replace q3 := k12.cell0 q3
          replace t0 := k12.cell0 t0
          replace t1 := k12.cell0 t1
          replace t2 := k12.cell0 t2
          replace K := hide ((unhide K).trans k12)
          have z13 := k12.size
          clear k12
          have KF := hide (((((unhide K).setNew (p := ⟨w.heap.size + 1, 0, none⟩) (by simp) (.int .i64 1)).setNew (p := ⟨w.heap.size + 1, 1, none⟩) (by simp) (.bool true)).setNew (p := ⟨w.heap.size + 1, 2, none⟩) (by simp) (.int .i64 9007199254740991)).setNew (p := ⟨w.heap.size + 1, 3, none⟩) (by simp) (.int .i64 971))
          clear  K 
          try go_wp2_with fail
          exact bodyPost_ret (v := .tuple #[.agg #[.int .i64 1, .bool true, .int .i64 9007199254740991, .int .i64 971], .int .i64 3]) (by simp [results, Tryz.results62, go_sem, q0, q1, q2, q3, or_14s]) rfl ⟨by rw [unhide FA, unhide FF]; try rfl; try simp [flO, flOv], unhide KF⟩
        · have FA := hide f1
          have FF := hide f2
          clear f1 f2
          go_wp2_with fail
          refine (most_kept false _).mono ?_
          rintro e w12 ⟨rfl, k12⟩
          replace qf0 := k12.loose0 (World.block_lt_of_cell? _ _ q0) qf0
          replace qf1 := k12.loose0 (World.block_lt_of_cell? _ _ q1) qf1
          replace qf2 := k12.loose0 (World.block_lt_of_cell? _ _ q2) qf2
          replace qf3 := k12.loose0 (World.block_lt_of_cell? _ _ q3) qf3
          replace p0 := k12.cell0 p0
          replace p1 := k12.cell0 p1
          replace p2 := k12.cell0 p2
          replace q0 := k12.cell0 q0
          replace q1 := k12.cell0 q1
          replace q2 := k12.cell0 q2
          replace q3 := k12.cell0 q3
          replace t0 := k12.cell0 t0
          replace t1 := k12.cell0 t1
          replace t2 := k12.cell0 t2
          replace K := hide ((unhide K).trans k12)
          have z13 := k12.size
          clear k12
          have KF := hide (((((unhide K).setNew (p := ⟨w.heap.size + 1, 0, none⟩) (by simp) (.int .i64 1)).setNew (p := ⟨w.heap.size + 1, 1, none⟩) (by simp) (.bool false)).setNew (p := ⟨w.heap.size + 1, 2, none⟩) (by simp) (.int .i64 9007199254740991)).setNew (p := ⟨w.heap.size + 1, 3, none⟩) (by simp) (.int .i64 971))
          clear  K 
          try go_wp2_with fail
          exact bodyPost_ret (v := .tuple #[.agg #[.int .i64 1, .bool false, .int .i64 9007199254740991, .int .i64 971], .int .i64 3]) (by simp [results, Tryz.results62, go_sem, q0, q1, q2, q3, or_14s]) rfl ⟨by rw [unhide FA, unhide FF]; try rfl; try simp [flO, flOv], unhide KF⟩
        · have FA := hide f1
          have FF := hide f2
          clear f1 f2
          go_wp2_with fail
          exact bodyPost_ret (v := .tuple #[.agg #[.int .i64 2, .bool true, .int .i64 0, .int .i64 0], .int .i64 3]) (by simp [results, Tryz.results62, go_sem, q0, q1, q2, q3]) rfl ⟨by rw [unhide FA, unhide FF]; rfl, (((((unhide K).setNew (p := ⟨w.heap.size + 1, 0, none⟩) (by simp) (.int .i64 2)).setNew (p := ⟨w.heap.size + 1, 1, none⟩) (by simp) (.bool true)).setNew (p := ⟨w.heap.size + 1, 2, none⟩) (by simp) (.int .i64 0)).setNew (p := ⟨w.heap.size + 1, 3, none⟩) (by simp) (.int .i64 0))⟩
        · have FA := hide f1
          have FF := hide f2
          clear f1 f2
          go_wp2_with fail
          exact bodyPost_ret (v := .tuple #[.agg #[.int .i64 2, .bool false, .int .i64 0, .int .i64 0], .int .i64 3]) (by simp [results, Tryz.results62, go_sem, q0, q1, q2, q3]) rfl ⟨by rw [unhide FA, unhide FF]; rfl, (((((unhide K).setNew (p := ⟨w.heap.size + 1, 0, none⟩) (by simp) (.int .i64 2)).setNew (p := ⟨w.heap.size + 1, 1, none⟩) (by simp) (.bool false)).setNew (p := ⟨w.heap.size + 1, 2, none⟩) (by simp) (.int .i64 0)).setNew (p := ⟨w.heap.size + 1, 3, none⟩) (by simp) (.int .i64 0))⟩
        · have FA := hide f1
          have FF := hide f2
          clear f1 f2
          go_wp2_with fail
          exact bodyPost_ret (v := .tuple #[.agg #[.int .i64 2, .bool true, .int .i64 0, .int .i64 0], .int .i64 3]) (by simp [results, Tryz.results62, go_sem, q0, q1, q2, q3]) rfl ⟨by rw [unhide FA, unhide FF]; rfl, (((((unhide K).setNew (p := ⟨w.heap.size + 1, 0, none⟩) (by simp) (.int .i64 2)).setNew (p := ⟨w.heap.size + 1, 1, none⟩) (by simp) (.bool true)).setNew (p := ⟨w.heap.size + 1, 2, none⟩) (by simp) (.int .i64 0)).setNew (p := ⟨w.heap.size + 1, 3, none⟩) (by simp) (.int .i64 0))⟩
      go_wp2_with fail
      have mt := top4_spec sM eM (by omega) (by omega) w10 r6 lM (by omega)
      rw [unhide HTOP] at mt
      refine (mt).mono ?_
      rintro e w12 ⟨rfl, k12⟩
      replace r6 := r6.kept k12 (.inr (.inr (Nat.le_refl 0)))
      replace qf0 := k12.loose0 (World.block_lt_of_cell? _ _ q0) qf0
      replace qf1 := k12.loose0 (World.block_lt_of_cell? _ _ q1) qf1
      replace qf2 := k12.loose0 (World.block_lt_of_cell? _ _ q2) qf2
      replace qf3 := k12.loose0 (World.block_lt_of_cell? _ _ q3) qf3
      replace p0 := k12.cell0 p0
      replace p1 := k12.cell0 p1
      replace p2 := k12.cell0 p2
      replace q0 := k12.cell0 q0
      replace q1 := k12.cell0 q1
      replace q2 := k12.cell0 q2
      replace q3 := k12.cell0 q3
      replace t0 := k12.cell0 t0
      replace t1 := k12.cell0 t1
      replace t2 := k12.cell0 t2
      replace K := hide ((unhide K).trans k12)
      have z13 := k12.size
      clear k12
      clear mt
      obtain ⟨f1, f2⟩ := unhide FI (by omega)
      rw [unhide FGv] at f2
      have hw2 : IntKind.i64.wrap (TR - 53) = TR - 53 := w64 _ (by omega) (by omega)
      clear FB FI
      by_cases hlo2 : TR - 53 < -1074
      · obtain ⟨g1, g2⟩ := unhide HF2 (-1074) (by omega)
        have hq := flI_le R (TT - 53) hRb
        rw [g2] at f1 hq
        have FA := hide f1
        have FF := hide f2
        clear f1 f2 g2 HF2
        obtain ⟨NK, hNK⟩ : ∃ K : Nat, eM - (-1074) = K := ⟨(eM - (-1074)).toNat, by omega⟩
        have hkb : NK ≤ 800000 := by omega
        have hwk : IntKind.i64.wrap (eM - (-1074)) = (NK : Int) := by rw [w64 _ (by omega) (by omega)]; exact hNK
        have hkk : (eM - (-1074)).toNat = NK := by omega
        rw [hkk] at FA hq
        dsimp only at hq
        clear hkk hNK
        have hwk2 : IntKind.i64.wrap (eM + 1074) = (NK : Int) := by rw [← hwk]; congr 1
        skip
        go_wp2_with fail
        obtain ⟨VV, hVV⟩ : ∃ y, (val zM).toNat * 2 ^ NK = y := ⟨_, rfl⟩
        rw [hVV] at FA hq
        have hVb : VV ≤ 9007199254740992 := by omega
        clear hq
        have n_qf0 := qf0
        have n_q0 := q0
        have n_qf1 := qf1
        have n_q1 := q1
        have n_qf2 := qf2
        have n_q2 := q2
        have n_qf3 := qf3
        have n_q3 := q3
        have kd := (Kept.refl 0 0 w12).drew
        replace r6 := r6.kept kd (.inr (.inr (Nat.le_refl 0)))
        replace qf0 := kd.loose0 (World.block_lt_of_cell? _ _ q0) qf0
        replace qf1 := kd.loose0 (World.block_lt_of_cell? _ _ q1) qf1
        replace qf2 := kd.loose0 (World.block_lt_of_cell? _ _ q2) qf2
        replace qf3 := kd.loose0 (World.block_lt_of_cell? _ _ q3) qf3
        replace p0 := kd.cell0 p0
        replace p1 := kd.cell0 p1
        replace p2 := kd.cell0 p2
        replace q0 := kd.cell0 q0
        replace q1 := kd.cell0 q1
        replace q2 := kd.cell0 q2
        replace q3 := kd.cell0 q3
        replace t0 := kd.cell0 t0
        replace t1 := kd.cell0 t1
        replace t2 := kd.cell0 t2
        replace K := hide ((unhide K).trans kd)
        have z14 := kd.size
        clear kd
        refine wp_region_held_drew (S := (fun w' => w'.cell? ⟨w3.heap.size, 0, none⟩ = some (.bool sM) ∧ w'.cell? ⟨w3.heap.size, 1, none⟩ = some (.slice a6 zM.length c6) ∧ w'.cell? ⟨w3.heap.size, 2, none⟩ = some (.int .i64 eM))) (by kernel_rfl) ?_ (fun hHeld => ?_)
        · exact ⟨t0, t1, t2⟩
        refine wT (i := 0) (v := .pointer (some ⟨w3.heap.size, 0, none⟩)) rfl (Or.inl ⟨by rfl, ?_⟩) hHeld ?_
        · intro wq hSw
          try dsimp only at hSw
          go_simp
        try simp only [Act.put, zq1, zq2, zq3, zq4, zq5, zq6]
        refine wT (i := 1) (v := .pointer (some ⟨w3.heap.size, 0, none⟩)) rfl (Or.inl ⟨by rfl, ?_⟩) hHeld ?_
        · intro wq hSw
          try dsimp only at hSw
          go_simp
        try simp only [Act.put, zq1, zq2, zq3, zq4, zq5, zq6]
        refine wT (i := 2) (v := .bool sM) rfl (Or.inl ⟨by rfl, ?_⟩) hHeld ?_
        · intro wq hSw
          try dsimp only at hSw
          go_simp
        try simp only [Act.put, zq1, zq2, zq3, zq4, zq5, zq6]
        refine wT (i := 3) (v := .pointer (some ⟨w3.heap.size, 0, none⟩)) rfl (Or.inl ⟨by rfl, ?_⟩) hHeld ?_
        · intro wq hSw
          try dsimp only at hSw
          go_simp
        try simp only [Act.put, zq1, zq2, zq3, zq4, zq5, zq6]
        refine wT (i := 4) (v := .pointer (some ⟨w3.heap.size, 1, none⟩)) rfl (Or.inl ⟨by rfl, ?_⟩) hHeld ?_
        · intro wq hSw
          try dsimp only at hSw
          go_simp
        try simp only [Act.put, zq1, zq2, zq3, zq4, zq5, zq6]
        refine wT (i := 5) (v := .agg #[.slice a6 zM.length c6]) rfl (Or.inl ⟨by rfl, ?_⟩) hHeld ?_
        · intro wq hSw
          try dsimp only at hSw
          go_simp
        try simp only [Act.put, zq1, zq2, zq3, zq4, zq5, zq6]
        refine wT (i := 6) (v := .pointer (some ⟨w3.heap.size, 2, none⟩)) rfl (Or.inl ⟨by rfl, ?_⟩) hHeld ?_
        · intro wq hSw
          try dsimp only at hSw
          go_simp
        try simp only [Act.put, zq1, zq2, zq3, zq4, zq5, zq6]
        refine wT (i := 7) (v := .int .i64 eM) rfl (Or.inl ⟨by rfl, ?_⟩) hHeld ?_
        · intro wq hSw
          try dsimp only at hSw
          go_simp
        try simp only [Act.put, zq1, zq2, zq3, zq4, zq5, zq6]
        refine wT (i := 8) (v := .int .i64 (-1074)) rfl (Or.inl ⟨by rfl, ?_⟩) hHeld ?_
        · intro wq hSw
          try dsimp only at hSw
          go_simp
        try simp only [Act.put, zq1, zq2, zq3, zq4, zq5, zq6]
        refine wT (i := 9) (v := .int .i64 (NK : Int)) rfl (Or.inl ⟨by rfl, ?_⟩) hHeld ?_
        · intro wq hSw
          try dsimp only at hSw
          go_simp
        try simp only [Act.put, zq1, zq2, zq3, zq4, zq5, zq6]
        refine wT (i := 12) (v := .int .i64 (-1074)) rfl (Or.inl ⟨by rfl, ?_⟩) hHeld ?_
        · intro wq hSw
          try dsimp only at hSw
          go_simp
        try simp only [Act.put, zq1, zq2, zq3, zq4, zq5, zq6]
        refine wT (i := 14) (v := .int .i64 1) rfl (Or.inl ⟨by rfl, ?_⟩) hHeld ?_
        · intro wq hSw
          try dsimp only at hSw
          go_simp
        try simp only [Act.put, zq1, zq2, zq3, zq4, zq5, zq6]
        refine wR 10 (by kernel_rfl) rfl (fun KK hK => ?_)
        simp only [zq1, zq2, zq3]
        rw [if_pos (by rfl)]
        refine wps2 108 (.tmp 95) (.tmp 99) _ rfl in_l2shl_r (.agg #[.slice a6 zM.length c6]) (.int .i64 (NK : Int)) rfl rfl (shl_spec _ r6 lM.1 (by omega) NK (.inr hkb) (by omega)) ?_
        rintro e w15 ⟨v9, rfl, r9, k15⟩
        refine ⟨_, rfl, ?_⟩
        replace r6 := r6.kept k15 (.inr (.inr (Nat.le_refl 0)))
        replace qf0 := k15.loose0 (World.block_lt_of_cell? _ _ q0) qf0
        replace qf1 := k15.loose0 (World.block_lt_of_cell? _ _ q1) qf1
        replace qf2 := k15.loose0 (World.block_lt_of_cell? _ _ q2) qf2
        replace qf3 := k15.loose0 (World.block_lt_of_cell? _ _ q3) qf3
        replace p0 := k15.cell0 p0
        replace p1 := k15.cell0 p1
        replace p2 := k15.cell0 p2
        replace q0 := k15.cell0 q0
        replace q1 := k15.cell0 q1
        replace q2 := k15.cell0 q2
        replace q3 := k15.cell0 q3
        replace t0 := k15.cell0 t0
        replace t1 := k15.cell0 t1
        replace t2 := k15.cell0 t2
        replace K := hide ((unhide K).trans k15)
        have z16 := k15.size
        clear k15
        clear hHeld
        refine hK.out _ _ ?_ (fun hHeld => ?_)
        · exact ⟨t0, t1, t2⟩
        clear hK KK
        try simp only [Act.put, zq1, zq2, zq3, zq4, zq5, zq6]
        rw [hVV] at r9
        obtain ⟨a9, c9, hv⟩ := Row.form' r9
        subst hv
        refine wR 11 (by kernel_rfl) rfl (fun KK hK => ?_)
        simp only [zq1, zq2, zq3]
        rw [if_pos (by rfl)]
        refine wps1 107 (.tmp 100) _ rfl in_l2int_r (.agg #[.slice a9 (limbs VV).length c9]) rfl (int_spec _ r9 (limbs_lim _) (by rw [limbs_val]; omega)) ?_
        rintro e w17 ⟨rfl, k17⟩
        refine ⟨_, rfl, ?_⟩
        replace r6 := r6.kept k17 (.inr (.inr (Nat.le_refl 0)))
        replace r9 := r9.kept k17 (.inr (.inr (Nat.le_refl 0)))
        replace qf0 := k17.loose0 (World.block_lt_of_cell? _ _ q0) qf0
        replace qf1 := k17.loose0 (World.block_lt_of_cell? _ _ q1) qf1
        replace qf2 := k17.loose0 (World.block_lt_of_cell? _ _ q2) qf2
        replace qf3 := k17.loose0 (World.block_lt_of_cell? _ _ q3) qf3
        replace p0 := k17.cell0 p0
        replace p1 := k17.cell0 p1
        replace p2 := k17.cell0 p2
        replace q0 := k17.cell0 q0
        replace q1 := k17.cell0 q1
        replace q2 := k17.cell0 q2
        replace q3 := k17.cell0 q3
        replace t0 := k17.cell0 t0
        replace t1 := k17.cell0 t1
        replace t2 := k17.cell0 t2
        replace K := hide ((unhide K).trans k17)
        have z18 := k17.size
        clear k17
        clear hHeld
        refine hK.out _ _ ?_ (fun hHeld => ?_)
        · exact ⟨t0, t1, t2⟩
        clear hK KK
        try simp only [Act.put, zq1, zq2, zq3, zq4, zq5, zq6]
        rw [limbs_val]
        refine wT (i := 13) (v := .agg #[.int .i64 1, .bool sM, .int .i64 (VV : Int), .int .i64 (-1074)]) rfl (Or.inl ⟨by rfl, ?_⟩) hHeld ?_
        · intro wq hSw
          try dsimp only at hSw
          go_simp
        try simp only [Act.put, zq1, zq2, zq3, zq4, zq5, zq6]
        refine wR 15 (by kernel_rfl) rfl (fun KK hK => ?_)
        simp only [zq1, zq2, zq3]
        rw [if_pos (by rfl)]
        go_simp
        clear hHeld
        refine hK.out _ _ ?_ (fun hHeld => ?_)
        · have sq := unhide S0; exact ⟨(cell_aside _ (by dsimp only; omega) (cell_aside _ (by dsimp only; omega) (cell_aside _ (by dsimp only; omega) (cell_aside _ (by dsimp only; omega) t0)))), (cell_aside _ (by dsimp only; omega) (cell_aside _ (by dsimp only; omega) (cell_aside _ (by dsimp only; omega) (cell_aside _ (by dsimp only; omega) t1)))), (cell_aside _ (by dsimp only; omega) (cell_aside _ (by dsimp only; omega) (cell_aside _ (by dsimp only; omega) (cell_aside _ (by dsimp only; omega) t2))))⟩
        clear hK KK
        try simp only [Act.put, zq1, zq2, zq3, zq4, zq5, zq6]
        refine wT (i := 16) (v := .int .i64 1) rfl (Or.inl ⟨by rfl, ?_⟩) hHeld ?_
        · intro wq hSw
          try dsimp only at hSw
          go_simp
        try simp only [Act.put, zq1, zq2, zq3, zq4, zq5, zq6]
        refine wpAnyH_done (by kernel_rfl) ?_ _
        clear hHeld
        have KF := hide (((((unhide K).setNew (p := ⟨w.heap.size + 1, 0, none⟩) (by simp) (.int .i64 1)).setNew (p := ⟨w.heap.size + 1, 1, none⟩) (by simp) (.bool sM)).setNew (p := ⟨w.heap.size + 1, 2, none⟩) (by simp) (.int .i64 (VV : Int))).setNew (p := ⟨w.heap.size + 1, 3, none⟩) (by simp) (.int .i64 (-1074)))
        clear r6 r9 K 
        try go_wp2_with fail
        exact bodyPost_ret (v := .tuple #[.agg #[.int .i64 1, .bool sM, .int .i64 (VV : Int), .int .i64 (-1074)], .int .i64 1]) (by simp [results, Tryz.results62, go_sem, q0, q1, q2, q3, or_14s]) rfl ⟨by rw [unhide FA, unhide FF], unhide KF⟩
      · obtain ⟨g1, g2⟩ := unhide HF2 (TR - 53) (by omega)
        have hq := flI_le R (TT - 53) hRb
        rw [g2] at f1 hq
        have FA := hide f1
        have FF := hide f2
        clear f1 f2 g2 HF2
        obtain ⟨NK, hNK⟩ : ∃ K : Nat, eM - (TR - 53) = K := ⟨(eM - (TR - 53)).toNat, by omega⟩
        have hkb : NK ≤ 800000 := by omega
        have hwk : IntKind.i64.wrap (eM - (TR - 53)) = (NK : Int) := by rw [w64 _ (by omega) (by omega)]; exact hNK
        have hkk : (eM - (TR - 53)).toNat = NK := by omega
        rw [hkk] at FA hq
        dsimp only at hq
        clear hkk hNK
        go_wp2_with fail
        obtain ⟨VV, hVV⟩ : ∃ y, (val zM).toNat * 2 ^ NK = y := ⟨_, rfl⟩
        rw [hVV] at FA hq
        have hVb : VV ≤ 9007199254740992 := by omega
        clear hq
        have n_qf0 := qf0
        have n_q0 := q0
        have n_qf1 := qf1
        have n_q1 := q1
        have n_qf2 := qf2
        have n_q2 := q2
        have n_qf3 := qf3
        have n_q3 := q3
        have kd := (Kept.refl 0 0 w12).drew
        replace r6 := r6.kept kd (.inr (.inr (Nat.le_refl 0)))
        replace qf0 := kd.loose0 (World.block_lt_of_cell? _ _ q0) qf0
        replace qf1 := kd.loose0 (World.block_lt_of_cell? _ _ q1) qf1
        replace qf2 := kd.loose0 (World.block_lt_of_cell? _ _ q2) qf2
        replace qf3 := kd.loose0 (World.block_lt_of_cell? _ _ q3) qf3
        replace p0 := kd.cell0 p0
        replace p1 := kd.cell0 p1
        replace p2 := kd.cell0 p2
        replace q0 := kd.cell0 q0
        replace q1 := kd.cell0 q1
        replace q2 := kd.cell0 q2
        replace q3 := kd.cell0 q3
        replace t0 := kd.cell0 t0
        replace t1 := kd.cell0 t1
        replace t2 := kd.cell0 t2
        replace K := hide ((unhide K).trans kd)
        have z14 := kd.size
        clear kd
        refine wp_region_held_drew (S := (fun w' => w'.cell? ⟨w3.heap.size, 0, none⟩ = some (.bool sM) ∧ w'.cell? ⟨w3.heap.size, 1, none⟩ = some (.slice a6 zM.length c6) ∧ w'.cell? ⟨w3.heap.size, 2, none⟩ = some (.int .i64 eM))) (by kernel_rfl) ?_ (fun hHeld => ?_)
        · exact ⟨t0, t1, t2⟩
        refine wT (i := 0) (v := .pointer (some ⟨w3.heap.size, 0, none⟩)) rfl (Or.inl ⟨by rfl, ?_⟩) hHeld ?_
        · intro wq hSw
          try dsimp only at hSw
          go_simp
        try simp only [Act.put, zq1, zq2, zq3, zq4, zq5, zq6]
        refine wT (i := 1) (v := .pointer (some ⟨w3.heap.size, 0, none⟩)) rfl (Or.inl ⟨by rfl, ?_⟩) hHeld ?_
        · intro wq hSw
          try dsimp only at hSw
          go_simp
        try simp only [Act.put, zq1, zq2, zq3, zq4, zq5, zq6]
        refine wT (i := 2) (v := .bool sM) rfl (Or.inl ⟨by rfl, ?_⟩) hHeld ?_
        · intro wq hSw
          try dsimp only at hSw
          go_simp
        try simp only [Act.put, zq1, zq2, zq3, zq4, zq5, zq6]
        refine wT (i := 3) (v := .pointer (some ⟨w3.heap.size, 0, none⟩)) rfl (Or.inl ⟨by rfl, ?_⟩) hHeld ?_
        · intro wq hSw
          try dsimp only at hSw
          go_simp
        try simp only [Act.put, zq1, zq2, zq3, zq4, zq5, zq6]
        refine wT (i := 4) (v := .pointer (some ⟨w3.heap.size, 1, none⟩)) rfl (Or.inl ⟨by rfl, ?_⟩) hHeld ?_
        · intro wq hSw
          try dsimp only at hSw
          go_simp
        try simp only [Act.put, zq1, zq2, zq3, zq4, zq5, zq6]
        refine wT (i := 5) (v := .agg #[.slice a6 zM.length c6]) rfl (Or.inl ⟨by rfl, ?_⟩) hHeld ?_
        · intro wq hSw
          try dsimp only at hSw
          go_simp
        try simp only [Act.put, zq1, zq2, zq3, zq4, zq5, zq6]
        refine wT (i := 6) (v := .pointer (some ⟨w3.heap.size, 2, none⟩)) rfl (Or.inl ⟨by rfl, ?_⟩) hHeld ?_
        · intro wq hSw
          try dsimp only at hSw
          go_simp
        try simp only [Act.put, zq1, zq2, zq3, zq4, zq5, zq6]
        refine wT (i := 7) (v := .int .i64 eM) rfl (Or.inl ⟨by rfl, ?_⟩) hHeld ?_
        · intro wq hSw
          try dsimp only at hSw
          go_simp
        try simp only [Act.put, zq1, zq2, zq3, zq4, zq5, zq6]
        refine wT (i := 8) (v := .int .i64 (TR - 53)) rfl (Or.inl ⟨by rfl, ?_⟩) hHeld ?_
        · intro wq hSw
          try dsimp only at hSw
          go_simp
        try simp only [Act.put, zq1, zq2, zq3, zq4, zq5, zq6]
        refine wT (i := 9) (v := .int .i64 (NK : Int)) rfl (Or.inl ⟨by rfl, ?_⟩) hHeld ?_
        · intro wq hSw
          try dsimp only at hSw
          go_simp
        try simp only [Act.put, zq1, zq2, zq3, zq4, zq5, zq6]
        refine wT (i := 12) (v := .int .i64 (TR - 53)) rfl (Or.inl ⟨by rfl, ?_⟩) hHeld ?_
        · intro wq hSw
          try dsimp only at hSw
          go_simp
        try simp only [Act.put, zq1, zq2, zq3, zq4, zq5, zq6]
        refine wT (i := 14) (v := .int .i64 1) rfl (Or.inl ⟨by rfl, ?_⟩) hHeld ?_
        · intro wq hSw
          try dsimp only at hSw
          go_simp
        try simp only [Act.put, zq1, zq2, zq3, zq4, zq5, zq6]
        refine wR 10 (by kernel_rfl) rfl (fun KK hK => ?_)
        simp only [zq1, zq2, zq3]
        rw [if_pos (by rfl)]
        refine wps2 108 (.tmp 95) (.tmp 99) _ rfl in_l2shl_r (.agg #[.slice a6 zM.length c6]) (.int .i64 (NK : Int)) rfl rfl (shl_spec _ r6 lM.1 (by omega) NK (.inr hkb) (by omega)) ?_
        rintro e w15 ⟨v9, rfl, r9, k15⟩
        refine ⟨_, rfl, ?_⟩
        replace r6 := r6.kept k15 (.inr (.inr (Nat.le_refl 0)))
        replace qf0 := k15.loose0 (World.block_lt_of_cell? _ _ q0) qf0
        replace qf1 := k15.loose0 (World.block_lt_of_cell? _ _ q1) qf1
        replace qf2 := k15.loose0 (World.block_lt_of_cell? _ _ q2) qf2
        replace qf3 := k15.loose0 (World.block_lt_of_cell? _ _ q3) qf3
        replace p0 := k15.cell0 p0
        replace p1 := k15.cell0 p1
        replace p2 := k15.cell0 p2
        replace q0 := k15.cell0 q0
        replace q1 := k15.cell0 q1
        replace q2 := k15.cell0 q2
        replace q3 := k15.cell0 q3
        replace t0 := k15.cell0 t0
        replace t1 := k15.cell0 t1
        replace t2 := k15.cell0 t2
        replace K := hide ((unhide K).trans k15)
        have z16 := k15.size
        clear k15
        clear hHeld
        refine hK.out _ _ ?_ (fun hHeld => ?_)
        · exact ⟨t0, t1, t2⟩
        clear hK KK
        try simp only [Act.put, zq1, zq2, zq3, zq4, zq5, zq6]
        rw [hVV] at r9
        obtain ⟨a9, c9, hv⟩ := Row.form' r9
        subst hv
        refine wR 11 (by kernel_rfl) rfl (fun KK hK => ?_)
        simp only [zq1, zq2, zq3]
        rw [if_pos (by rfl)]
        refine wps1 107 (.tmp 100) _ rfl in_l2int_r (.agg #[.slice a9 (limbs VV).length c9]) rfl (int_spec _ r9 (limbs_lim _) (by rw [limbs_val]; omega)) ?_
        rintro e w17 ⟨rfl, k17⟩
        refine ⟨_, rfl, ?_⟩
        replace r6 := r6.kept k17 (.inr (.inr (Nat.le_refl 0)))
        replace r9 := r9.kept k17 (.inr (.inr (Nat.le_refl 0)))
        replace qf0 := k17.loose0 (World.block_lt_of_cell? _ _ q0) qf0
        replace qf1 := k17.loose0 (World.block_lt_of_cell? _ _ q1) qf1
        replace qf2 := k17.loose0 (World.block_lt_of_cell? _ _ q2) qf2
        replace qf3 := k17.loose0 (World.block_lt_of_cell? _ _ q3) qf3
        replace p0 := k17.cell0 p0
        replace p1 := k17.cell0 p1
        replace p2 := k17.cell0 p2
        replace q0 := k17.cell0 q0
        replace q1 := k17.cell0 q1
        replace q2 := k17.cell0 q2
        replace q3 := k17.cell0 q3
        replace t0 := k17.cell0 t0
        replace t1 := k17.cell0 t1
        replace t2 := k17.cell0 t2
        replace K := hide ((unhide K).trans k17)
        have z18 := k17.size
        clear k17
        clear hHeld
        refine hK.out _ _ ?_ (fun hHeld => ?_)
        · exact ⟨t0, t1, t2⟩
        clear hK KK
        try simp only [Act.put, zq1, zq2, zq3, zq4, zq5, zq6]
        rw [limbs_val]
        refine wT (i := 13) (v := .agg #[.int .i64 1, .bool sM, .int .i64 (VV : Int), .int .i64 (TR - 53)]) rfl (Or.inl ⟨by rfl, ?_⟩) hHeld ?_
        · intro wq hSw
          try dsimp only at hSw
          go_simp
        try simp only [Act.put, zq1, zq2, zq3, zq4, zq5, zq6]
        refine wR 15 (by kernel_rfl) rfl (fun KK hK => ?_)
        simp only [zq1, zq2, zq3]
        rw [if_pos (by rfl)]
        go_simp
        clear hHeld
        refine hK.out _ _ ?_ (fun hHeld => ?_)
        · have sq := unhide S0; exact ⟨(cell_aside _ (by dsimp only; omega) (cell_aside _ (by dsimp only; omega) (cell_aside _ (by dsimp only; omega) (cell_aside _ (by dsimp only; omega) t0)))), (cell_aside _ (by dsimp only; omega) (cell_aside _ (by dsimp only; omega) (cell_aside _ (by dsimp only; omega) (cell_aside _ (by dsimp only; omega) t1)))), (cell_aside _ (by dsimp only; omega) (cell_aside _ (by dsimp only; omega) (cell_aside _ (by dsimp only; omega) (cell_aside _ (by dsimp only; omega) t2))))⟩
        clear hK KK
        try simp only [Act.put, zq1, zq2, zq3, zq4, zq5, zq6]
        refine wT (i := 16) (v := .int .i64 1) rfl (Or.inl ⟨by rfl, ?_⟩) hHeld ?_
        · intro wq hSw
          try dsimp only at hSw
          go_simp
        try simp only [Act.put, zq1, zq2, zq3, zq4, zq5, zq6]
        refine wpAnyH_done (by kernel_rfl) ?_ _
        clear hHeld
        have KF := hide (((((unhide K).setNew (p := ⟨w.heap.size + 1, 0, none⟩) (by simp) (.int .i64 1)).setNew (p := ⟨w.heap.size + 1, 1, none⟩) (by simp) (.bool sM)).setNew (p := ⟨w.heap.size + 1, 2, none⟩) (by simp) (.int .i64 (VV : Int))).setNew (p := ⟨w.heap.size + 1, 3, none⟩) (by simp) (.int .i64 (TR - 53)))
        clear r6 r9 K 
        try go_wp2_with fail
        exact bodyPost_ret (v := .tuple #[.agg #[.int .i64 1, .bool sM, .int .i64 (VV : Int), .int .i64 (TR - 53)], .int .i64 1]) (by simp [results, Tryz.results62, go_sem, q0, q1, q2, q3, or_14s]) rfl ⟨by rw [unhide FA, unhide FF], unhide KF⟩
    · have FGv : Hid (flF (val zs).toNat x = 0) := by show _ = _; rw [unhide FG]; simp
      clear FG
      clear r
      by_cases hR0 : R = 0
      · have hzl : ((zM.length : Int) == 0) = true := beq_iff_eq.2 (by have := (unhide HZ0).2 hR0; omega)
        have kn := (Kept.refl 0 0 w3).alloc (.cells #[.bool sM, .slice a6 zM.length c6, .int .i64 eM] 37)
        have t0 : (w3.alloc (.cells #[.bool sM, .slice a6 zM.length c6, .int .i64 eM] 37)).cell? ⟨w3.heap.size, 0, none⟩ = some (.bool sM) := new_cell2 _ _ _ _ _ _ (by simp) rfl
        have t1 : (w3.alloc (.cells #[.bool sM, .slice a6 zM.length c6, .int .i64 eM] 37)).cell? ⟨w3.heap.size, 1, none⟩ = some (.slice a6 zM.length c6) := new_cell2 _ _ _ _ _ _ (by simp) rfl
        have t2 : (w3.alloc (.cells #[.bool sM, .slice a6 zM.length c6, .int .i64 eM] 37)).cell? ⟨w3.heap.size, 2, none⟩ = some (.int .i64 eM) := new_cell2 _ _ _ _ _ _ (by simp) rfl
        have sz5 : w3.heap.size + 1 ≤ (w3.alloc (.cells #[.bool sM, .slice a6 zM.length c6, .int .i64 eM] 37)).heap.size := by simp
        replace r6 := r6.kept kn (.inr (.inr (Nat.le_refl 0)))
        replace qf0 := kn.loose0 (World.block_lt_of_cell? _ _ q0) qf0
        replace qf1 := kn.loose0 (World.block_lt_of_cell? _ _ q1) qf1
        replace qf2 := kn.loose0 (World.block_lt_of_cell? _ _ q2) qf2
        replace qf3 := kn.loose0 (World.block_lt_of_cell? _ _ q3) qf3
        replace p0 := kn.cell0 p0
        replace p1 := kn.cell0 p1
        replace p2 := kn.cell0 p2
        replace q0 := kn.cell0 q0
        replace q1 := kn.cell0 q1
        replace q2 := kn.cell0 q2
        replace q3 := kn.cell0 q3
        replace K := hide ((unhide K).trans kn)
        have z6 := kn.size
        clear kn
        go_wp2_with fail
        generalize (w3.alloc (.cells #[.bool sM, .slice a6 zM.length c6, .int .i64 eM] 37)) = wn7 at *
        have FA : Hid (A = (0, 0, 0) ∧ F = 0) := by
          have ht : topI (limbs R) (TT - 53) ≤ 1024 := by rw [hR0, topI_zero]; decide
          obtain ⟨f1, f2⟩ := unhide FI (by omega)
          exact ⟨by rw [f1]; unfold flI; rw [if_pos hR0], by rw [f2, unhide FGv]⟩
        clear FB FI HFIN hR0
        have KF := hide (((((unhide K).setNew (p := ⟨w.heap.size + 1, 0, none⟩) (by simp) (.int .i64 0)).setNew (p := ⟨w.heap.size + 1, 1, none⟩) (by simp) (.bool SS)).setNew (p := ⟨w.heap.size + 1, 2, none⟩) (by simp) (.int .i64 0)).setNew (p := ⟨w.heap.size + 1, 3, none⟩) (by simp) (.int .i64 0))
        clear r6 K 
        try go_wp2_with fail
        exact bodyPost_ret (v := .tuple #[.agg #[.int .i64 0, .bool SS, .int .i64 0, .int .i64 0], .int .i64 0]) (by simp [results, Tryz.results62, go_sem, q0, q1, q2, q3, or_14s]) rfl ⟨by rw [(unhide FA).1, (unhide FA).2], unhide KF⟩
      · have hzl : ((zM.length : Int) == 0) = false := beq_eq_false_iff_ne.2 (by have h := (unhide HZ0).1; omega)
        have kn := (Kept.refl 0 0 w3).alloc (.cells #[.bool sM, .slice a6 zM.length c6, .int .i64 eM] 37)
        have t0 : (w3.alloc (.cells #[.bool sM, .slice a6 zM.length c6, .int .i64 eM] 37)).cell? ⟨w3.heap.size, 0, none⟩ = some (.bool sM) := new_cell2 _ _ _ _ _ _ (by simp) rfl
        have t1 : (w3.alloc (.cells #[.bool sM, .slice a6 zM.length c6, .int .i64 eM] 37)).cell? ⟨w3.heap.size, 1, none⟩ = some (.slice a6 zM.length c6) := new_cell2 _ _ _ _ _ _ (by simp) rfl
        have t2 : (w3.alloc (.cells #[.bool sM, .slice a6 zM.length c6, .int .i64 eM] 37)).cell? ⟨w3.heap.size, 2, none⟩ = some (.int .i64 eM) := new_cell2 _ _ _ _ _ _ (by simp) rfl
        have sz5 : w3.heap.size + 1 ≤ (w3.alloc (.cells #[.bool sM, .slice a6 zM.length c6, .int .i64 eM] 37)).heap.size := by simp
        replace r6 := r6.kept kn (.inr (.inr (Nat.le_refl 0)))
        replace qf0 := kn.loose0 (World.block_lt_of_cell? _ _ q0) qf0
        replace qf1 := kn.loose0 (World.block_lt_of_cell? _ _ q1) qf1
        replace qf2 := kn.loose0 (World.block_lt_of_cell? _ _ q2) qf2
        replace qf3 := kn.loose0 (World.block_lt_of_cell? _ _ q3) qf3
        replace p0 := kn.cell0 p0
        replace p1 := kn.cell0 p1
        replace p2 := kn.cell0 p2
        replace q0 := kn.cell0 q0
        replace q1 := kn.cell0 q1
        replace q2 := kn.cell0 q2
        replace q3 := kn.cell0 q3
        replace K := hide ((unhide K).trans kn)
        have z6 := kn.size
        clear kn
        go_wp2_with fail
        generalize (w3.alloc (.cells #[.bool sM, .slice a6 zM.length c6, .int .i64 eM] 37)) = wn7 at *
        obtain ⟨hf1, hf2⟩ := unhide HFIN hR0
        have hsm := unhide HSM hR0
        subst hsm
        obtain ⟨TR, hTR⟩ : ∃ y, (TT - 53) + (bitsN R : Int) = y := ⟨_, rfl⟩
        rw [hTR] at hf1
        simp only [hTR] at hf2
        rw [topI_limbs hR0, hTR] at FB FI
        have HF2 := hide hf2
        clear hf2 HFIN
        have mt := top4_spec sM eM (by omega) (by omega) wn7 r6 lM (by omega)
        rw [hf1] at mt
        have hTRb : -2000 ≤ TR ∧ TR ≤ 190000 := by have := (bitsN_le R 54).2 (Nat.lt_of_le_of_lt hRb (by decide)); omega
        have HTOP := hide hf1
        clear hf1 hTR
        refine (mt).mono ?_
        rintro e w8 ⟨rfl, k8⟩
        replace r6 := r6.kept k8 (.inr (.inr (Nat.le_refl 0)))
        replace qf0 := k8.loose0 (World.block_lt_of_cell? _ _ q0) qf0
        replace qf1 := k8.loose0 (World.block_lt_of_cell? _ _ q1) qf1
        replace qf2 := k8.loose0 (World.block_lt_of_cell? _ _ q2) qf2
        replace qf3 := k8.loose0 (World.block_lt_of_cell? _ _ q3) qf3
        replace p0 := k8.cell0 p0
        replace p1 := k8.cell0 p1
        replace p2 := k8.cell0 p2
        replace q0 := k8.cell0 q0
        replace q1 := k8.cell0 q1
        replace q2 := k8.cell0 q2
        replace q3 := k8.cell0 q3
        replace t0 := k8.cell0 t0
        replace t1 := k8.cell0 t1
        replace t2 := k8.cell0 t2
        replace K := hide ((unhide K).trans k8)
        have z9 := k8.size
        clear k8
        clear mt
        by_cases hbig : 1024 < TR
        · obtain ⟨f1, f2⟩ := unhide FB (by omega)
          clear FB FI
          clear r6
          rcases mode5s hm0 hm4 with rfl | rfl | rfl | rfl | rfl <;> cases sM
          · have FA := hide f1
            have FF := hide f2
            clear f1 f2
            go_wp2_with fail
            exact bodyPost_ret (v := .tuple #[.agg #[.int .i64 2, .bool false, .int .i64 0, .int .i64 0], .int .i64 3]) (by simp [results, Tryz.results62, go_sem, q0, q1, q2, q3]) rfl ⟨by rw [unhide FA, unhide FF]; rfl, (((((unhide K).setNew (p := ⟨w.heap.size + 1, 0, none⟩) (by simp) (.int .i64 2)).setNew (p := ⟨w.heap.size + 1, 1, none⟩) (by simp) (.bool false)).setNew (p := ⟨w.heap.size + 1, 2, none⟩) (by simp) (.int .i64 0)).setNew (p := ⟨w.heap.size + 1, 3, none⟩) (by simp) (.int .i64 0))⟩
          · have FA := hide f1
            have FF := hide f2
            clear f1 f2
            go_wp2_with fail
            exact bodyPost_ret (v := .tuple #[.agg #[.int .i64 2, .bool true, .int .i64 0, .int .i64 0], .int .i64 3]) (by simp [results, Tryz.results62, go_sem, q0, q1, q2, q3]) rfl ⟨by rw [unhide FA, unhide FF]; rfl, (((((unhide K).setNew (p := ⟨w.heap.size + 1, 0, none⟩) (by simp) (.int .i64 2)).setNew (p := ⟨w.heap.size + 1, 1, none⟩) (by simp) (.bool true)).setNew (p := ⟨w.heap.size + 1, 2, none⟩) (by simp) (.int .i64 0)).setNew (p := ⟨w.heap.size + 1, 3, none⟩) (by simp) (.int .i64 0))⟩
          · have FA := hide f1
            have FF := hide f2
            clear f1 f2
            go_wp2_with fail
            refine (most_kept false _).mono ?_
            rintro e w10 ⟨rfl, k10⟩
            replace qf0 := k10.loose0 (World.block_lt_of_cell? _ _ q0) qf0
            replace qf1 := k10.loose0 (World.block_lt_of_cell? _ _ q1) qf1
            replace qf2 := k10.loose0 (World.block_lt_of_cell? _ _ q2) qf2
            replace qf3 := k10.loose0 (World.block_lt_of_cell? _ _ q3) qf3
            replace p0 := k10.cell0 p0
            replace p1 := k10.cell0 p1
            replace p2 := k10.cell0 p2
            replace q0 := k10.cell0 q0
            replace q1 := k10.cell0 q1
            replace q2 := k10.cell0 q2
            replace q3 := k10.cell0 q3
            replace t0 := k10.cell0 t0
            replace t1 := k10.cell0 t1
            replace t2 := k10.cell0 t2
            replace K := hide ((unhide K).trans k10)
            have z11 := k10.size
            clear k10
            have KF := hide (((((unhide K).setNew (p := ⟨w.heap.size + 1, 0, none⟩) (by simp) (.int .i64 1)).setNew (p := ⟨w.heap.size + 1, 1, none⟩) (by simp) (.bool false)).setNew (p := ⟨w.heap.size + 1, 2, none⟩) (by simp) (.int .i64 9007199254740991)).setNew (p := ⟨w.heap.size + 1, 3, none⟩) (by simp) (.int .i64 971))
            clear  K 
            try go_wp2_with fail
            exact bodyPost_ret (v := .tuple #[.agg #[.int .i64 1, .bool false, .int .i64 9007199254740991, .int .i64 971], .int .i64 3]) (by simp [results, Tryz.results62, go_sem, q0, q1, q2, q3, or_14s]) rfl ⟨by rw [unhide FA, unhide FF]; try rfl; try simp [flO, flOv], unhide KF⟩
          · have FA := hide f1
            have FF := hide f2
            clear f1 f2
            go_wp2_with fail
            refine (most_kept true _).mono ?_
            rintro e w10 ⟨rfl, k10⟩
            replace qf0 := k10.loose0 (World.block_lt_of_cell? _ _ q0) qf0
            replace qf1 := k10.loose0 (World.block_lt_of_cell? _ _ q1) qf1
            replace qf2 := k10.loose0 (World.block_lt_of_cell? _ _ q2) qf2
            replace qf3 := k10.loose0 (World.block_lt_of_cell? _ _ q3) qf3
            replace p0 := k10.cell0 p0
            replace p1 := k10.cell0 p1
            replace p2 := k10.cell0 p2
            replace q0 := k10.cell0 q0
            replace q1 := k10.cell0 q1
            replace q2 := k10.cell0 q2
            replace q3 := k10.cell0 q3
            replace t0 := k10.cell0 t0
            replace t1 := k10.cell0 t1
            replace t2 := k10.cell0 t2
            replace K := hide ((unhide K).trans k10)
            have z11 := k10.size
            clear k10
            have KF := hide (((((unhide K).setNew (p := ⟨w.heap.size + 1, 0, none⟩) (by simp) (.int .i64 1)).setNew (p := ⟨w.heap.size + 1, 1, none⟩) (by simp) (.bool true)).setNew (p := ⟨w.heap.size + 1, 2, none⟩) (by simp) (.int .i64 9007199254740991)).setNew (p := ⟨w.heap.size + 1, 3, none⟩) (by simp) (.int .i64 971))
            clear  K 
            try go_wp2_with fail
            exact bodyPost_ret (v := .tuple #[.agg #[.int .i64 1, .bool true, .int .i64 9007199254740991, .int .i64 971], .int .i64 3]) (by simp [results, Tryz.results62, go_sem, q0, q1, q2, q3, or_14s]) rfl ⟨by rw [unhide FA, unhide FF]; try rfl; try simp [flO, flOv], unhide KF⟩
          · have FA := hide f1
            have FF := hide f2
            clear f1 f2
            go_wp2_with fail
            exact bodyPost_ret (v := .tuple #[.agg #[.int .i64 2, .bool false, .int .i64 0, .int .i64 0], .int .i64 3]) (by simp [results, Tryz.results62, go_sem, q0, q1, q2, q3]) rfl ⟨by rw [unhide FA, unhide FF]; rfl, (((((unhide K).setNew (p := ⟨w.heap.size + 1, 0, none⟩) (by simp) (.int .i64 2)).setNew (p := ⟨w.heap.size + 1, 1, none⟩) (by simp) (.bool false)).setNew (p := ⟨w.heap.size + 1, 2, none⟩) (by simp) (.int .i64 0)).setNew (p := ⟨w.heap.size + 1, 3, none⟩) (by simp) (.int .i64 0))⟩
          · have FA := hide f1
            have FF := hide f2
            clear f1 f2
            go_wp2_with fail
            refine (most_kept true _).mono ?_
            rintro e w10 ⟨rfl, k10⟩
            replace qf0 := k10.loose0 (World.block_lt_of_cell? _ _ q0) qf0
            replace qf1 := k10.loose0 (World.block_lt_of_cell? _ _ q1) qf1
            replace qf2 := k10.loose0 (World.block_lt_of_cell? _ _ q2) qf2
            replace qf3 := k10.loose0 (World.block_lt_of_cell? _ _ q3) qf3
            replace p0 := k10.cell0 p0
            replace p1 := k10.cell0 p1
            replace p2 := k10.cell0 p2
            replace q0 := k10.cell0 q0
            replace q1 := k10.cell0 q1
            replace q2 := k10.cell0 q2
            replace q3 := k10.cell0 q3
            replace t0 := k10.cell0 t0
            replace t1 := k10.cell0 t1
            replace t2 := k10.cell0 t2
            replace K := hide ((unhide K).trans k10)
            have z11 := k10.size
            clear k10
            have KF := hide (((((unhide K).setNew (p := ⟨w.heap.size + 1, 0, none⟩) (by simp) (.int .i64 1)).setNew (p := ⟨w.heap.size + 1, 1, none⟩) (by simp) (.bool true)).setNew (p := ⟨w.heap.size + 1, 2, none⟩) (by simp) (.int .i64 9007199254740991)).setNew (p := ⟨w.heap.size + 1, 3, none⟩) (by simp) (.int .i64 971))
            clear  K 
            try go_wp2_with fail
            exact bodyPost_ret (v := .tuple #[.agg #[.int .i64 1, .bool true, .int .i64 9007199254740991, .int .i64 971], .int .i64 3]) (by simp [results, Tryz.results62, go_sem, q0, q1, q2, q3, or_14s]) rfl ⟨by rw [unhide FA, unhide FF]; try rfl; try simp [flO, flOv], unhide KF⟩
          · have FA := hide f1
            have FF := hide f2
            clear f1 f2
            go_wp2_with fail
            refine (most_kept false _).mono ?_
            rintro e w10 ⟨rfl, k10⟩
            replace qf0 := k10.loose0 (World.block_lt_of_cell? _ _ q0) qf0
            replace qf1 := k10.loose0 (World.block_lt_of_cell? _ _ q1) qf1
            replace qf2 := k10.loose0 (World.block_lt_of_cell? _ _ q2) qf2
            replace qf3 := k10.loose0 (World.block_lt_of_cell? _ _ q3) qf3
            replace p0 := k10.cell0 p0
            replace p1 := k10.cell0 p1
            replace p2 := k10.cell0 p2
            replace q0 := k10.cell0 q0
            replace q1 := k10.cell0 q1
            replace q2 := k10.cell0 q2
            replace q3 := k10.cell0 q3
            replace t0 := k10.cell0 t0
            replace t1 := k10.cell0 t1
            replace t2 := k10.cell0 t2
            replace K := hide ((unhide K).trans k10)
            have z11 := k10.size
            clear k10
            have KF := hide (((((unhide K).setNew (p := ⟨w.heap.size + 1, 0, none⟩) (by simp) (.int .i64 1)).setNew (p := ⟨w.heap.size + 1, 1, none⟩) (by simp) (.bool false)).setNew (p := ⟨w.heap.size + 1, 2, none⟩) (by simp) (.int .i64 9007199254740991)).setNew (p := ⟨w.heap.size + 1, 3, none⟩) (by simp) (.int .i64 971))
            clear  K 
            try go_wp2_with fail
            exact bodyPost_ret (v := .tuple #[.agg #[.int .i64 1, .bool false, .int .i64 9007199254740991, .int .i64 971], .int .i64 3]) (by simp [results, Tryz.results62, go_sem, q0, q1, q2, q3, or_14s]) rfl ⟨by rw [unhide FA, unhide FF]; try rfl; try simp [flO, flOv], unhide KF⟩
          · have FA := hide f1
            have FF := hide f2
            clear f1 f2
            go_wp2_with fail
            exact bodyPost_ret (v := .tuple #[.agg #[.int .i64 2, .bool true, .int .i64 0, .int .i64 0], .int .i64 3]) (by simp [results, Tryz.results62, go_sem, q0, q1, q2, q3]) rfl ⟨by rw [unhide FA, unhide FF]; rfl, (((((unhide K).setNew (p := ⟨w.heap.size + 1, 0, none⟩) (by simp) (.int .i64 2)).setNew (p := ⟨w.heap.size + 1, 1, none⟩) (by simp) (.bool true)).setNew (p := ⟨w.heap.size + 1, 2, none⟩) (by simp) (.int .i64 0)).setNew (p := ⟨w.heap.size + 1, 3, none⟩) (by simp) (.int .i64 0))⟩
          · have FA := hide f1
            have FF := hide f2
            clear f1 f2
            go_wp2_with fail
            exact bodyPost_ret (v := .tuple #[.agg #[.int .i64 2, .bool false, .int .i64 0, .int .i64 0], .int .i64 3]) (by simp [results, Tryz.results62, go_sem, q0, q1, q2, q3]) rfl ⟨by rw [unhide FA, unhide FF]; rfl, (((((unhide K).setNew (p := ⟨w.heap.size + 1, 0, none⟩) (by simp) (.int .i64 2)).setNew (p := ⟨w.heap.size + 1, 1, none⟩) (by simp) (.bool false)).setNew (p := ⟨w.heap.size + 1, 2, none⟩) (by simp) (.int .i64 0)).setNew (p := ⟨w.heap.size + 1, 3, none⟩) (by simp) (.int .i64 0))⟩
          · have FA := hide f1
            have FF := hide f2
            clear f1 f2
            go_wp2_with fail
            exact bodyPost_ret (v := .tuple #[.agg #[.int .i64 2, .bool true, .int .i64 0, .int .i64 0], .int .i64 3]) (by simp [results, Tryz.results62, go_sem, q0, q1, q2, q3]) rfl ⟨by rw [unhide FA, unhide FF]; rfl, (((((unhide K).setNew (p := ⟨w.heap.size + 1, 0, none⟩) (by simp) (.int .i64 2)).setNew (p := ⟨w.heap.size + 1, 1, none⟩) (by simp) (.bool true)).setNew (p := ⟨w.heap.size + 1, 2, none⟩) (by simp) (.int .i64 0)).setNew (p := ⟨w.heap.size + 1, 3, none⟩) (by simp) (.int .i64 0))⟩
        go_wp2_with fail
        have mt := top4_spec sM eM (by omega) (by omega) w8 r6 lM (by omega)
        rw [unhide HTOP] at mt
        refine (mt).mono ?_
        rintro e w10 ⟨rfl, k10⟩
        replace r6 := r6.kept k10 (.inr (.inr (Nat.le_refl 0)))
        replace qf0 := k10.loose0 (World.block_lt_of_cell? _ _ q0) qf0
        replace qf1 := k10.loose0 (World.block_lt_of_cell? _ _ q1) qf1
        replace qf2 := k10.loose0 (World.block_lt_of_cell? _ _ q2) qf2
        replace qf3 := k10.loose0 (World.block_lt_of_cell? _ _ q3) qf3
        replace p0 := k10.cell0 p0
        replace p1 := k10.cell0 p1
        replace p2 := k10.cell0 p2
        replace q0 := k10.cell0 q0
        replace q1 := k10.cell0 q1
        replace q2 := k10.cell0 q2
        replace q3 := k10.cell0 q3
        replace t0 := k10.cell0 t0
        replace t1 := k10.cell0 t1
        replace t2 := k10.cell0 t2
        replace K := hide ((unhide K).trans k10)
        have z11 := k10.size
        clear k10
        clear mt
        obtain ⟨f1, f2⟩ := unhide FI (by omega)
        rw [unhide FGv] at f2
        have hw2 : IntKind.i64.wrap (TR - 53) = TR - 53 := w64 _ (by omega) (by omega)
        clear FB FI
        by_cases hlo2 : TR - 53 < -1074
        · obtain ⟨g1, g2⟩ := unhide HF2 (-1074) (by omega)
          have hq := flI_le R (TT - 53) hRb
          rw [g2] at f1 hq
          have FA := hide f1
          have FF := hide f2
          clear f1 f2 g2 HF2
          obtain ⟨NK, hNK⟩ : ∃ K : Nat, eM - (-1074) = K := ⟨(eM - (-1074)).toNat, by omega⟩
          have hkb : NK ≤ 800000 := by omega
          have hwk : IntKind.i64.wrap (eM - (-1074)) = (NK : Int) := by rw [w64 _ (by omega) (by omega)]; exact hNK
          have hkk : (eM - (-1074)).toNat = NK := by omega
          rw [hkk] at FA hq
          dsimp only at hq
          clear hkk hNK
          have hwk2 : IntKind.i64.wrap (eM + 1074) = (NK : Int) := by rw [← hwk]; congr 1
          skip
          go_wp2_with fail
          obtain ⟨VV, hVV⟩ : ∃ y, (val zM).toNat * 2 ^ NK = y := ⟨_, rfl⟩
          rw [hVV] at FA hq
          have hVb : VV ≤ 9007199254740992 := by omega
          clear hq
          have n_qf0 := qf0
          have n_q0 := q0
          have n_qf1 := qf1
          have n_q1 := q1
          have n_qf2 := qf2
          have n_q2 := q2
          have n_qf3 := qf3
          have n_q3 := q3
          have kd := (Kept.refl 0 0 w10).drew
          replace r6 := r6.kept kd (.inr (.inr (Nat.le_refl 0)))
          replace qf0 := kd.loose0 (World.block_lt_of_cell? _ _ q0) qf0
          replace qf1 := kd.loose0 (World.block_lt_of_cell? _ _ q1) qf1
          replace qf2 := kd.loose0 (World.block_lt_of_cell? _ _ q2) qf2
          replace qf3 := kd.loose0 (World.block_lt_of_cell? _ _ q3) qf3
          replace p0 := kd.cell0 p0
          replace p1 := kd.cell0 p1
          replace p2 := kd.cell0 p2
          replace q0 := kd.cell0 q0
          replace q1 := kd.cell0 q1
          replace q2 := kd.cell0 q2
          replace q3 := kd.cell0 q3
          replace t0 := kd.cell0 t0
          replace t1 := kd.cell0 t1
          replace t2 := kd.cell0 t2
          replace K := hide ((unhide K).trans kd)
          have z12 := kd.size
          clear kd
          refine wp_region_held_drew (S := (fun w' => w'.cell? ⟨w3.heap.size, 0, none⟩ = some (.bool sM) ∧ w'.cell? ⟨w3.heap.size, 1, none⟩ = some (.slice a6 zM.length c6) ∧ w'.cell? ⟨w3.heap.size, 2, none⟩ = some (.int .i64 eM))) (by kernel_rfl) ?_ (fun hHeld => ?_)
          · exact ⟨t0, t1, t2⟩
          refine wT (i := 0) (v := .pointer (some ⟨w3.heap.size, 0, none⟩)) rfl (Or.inl ⟨by rfl, ?_⟩) hHeld ?_
          · intro wq hSw
            try dsimp only at hSw
            go_simp
          try simp only [Act.put, zq1, zq2, zq3, zq4, zq5, zq6]
          refine wT (i := 1) (v := .pointer (some ⟨w3.heap.size, 0, none⟩)) rfl (Or.inl ⟨by rfl, ?_⟩) hHeld ?_
          · intro wq hSw
            try dsimp only at hSw
            go_simp
          try simp only [Act.put, zq1, zq2, zq3, zq4, zq5, zq6]
          refine wT (i := 2) (v := .bool sM) rfl (Or.inl ⟨by rfl, ?_⟩) hHeld ?_
          · intro wq hSw
            try dsimp only at hSw
            go_simp
          try simp only [Act.put, zq1, zq2, zq3, zq4, zq5, zq6]
          refine wT (i := 3) (v := .pointer (some ⟨w3.heap.size, 0, none⟩)) rfl (Or.inl ⟨by rfl, ?_⟩) hHeld ?_
          · intro wq hSw
            try dsimp only at hSw
            go_simp
          try simp only [Act.put, zq1, zq2, zq3, zq4, zq5, zq6]
          refine wT (i := 4) (v := .pointer (some ⟨w3.heap.size, 1, none⟩)) rfl (Or.inl ⟨by rfl, ?_⟩) hHeld ?_
          · intro wq hSw
            try dsimp only at hSw
            go_simp
          try simp only [Act.put, zq1, zq2, zq3, zq4, zq5, zq6]
          refine wT (i := 5) (v := .agg #[.slice a6 zM.length c6]) rfl (Or.inl ⟨by rfl, ?_⟩) hHeld ?_
          · intro wq hSw
            try dsimp only at hSw
            go_simp
          try simp only [Act.put, zq1, zq2, zq3, zq4, zq5, zq6]
          refine wT (i := 6) (v := .pointer (some ⟨w3.heap.size, 2, none⟩)) rfl (Or.inl ⟨by rfl, ?_⟩) hHeld ?_
          · intro wq hSw
            try dsimp only at hSw
            go_simp
          try simp only [Act.put, zq1, zq2, zq3, zq4, zq5, zq6]
          refine wT (i := 7) (v := .int .i64 eM) rfl (Or.inl ⟨by rfl, ?_⟩) hHeld ?_
          · intro wq hSw
            try dsimp only at hSw
            go_simp
          try simp only [Act.put, zq1, zq2, zq3, zq4, zq5, zq6]
          refine wT (i := 8) (v := .int .i64 (-1074)) rfl (Or.inl ⟨by rfl, ?_⟩) hHeld ?_
          · intro wq hSw
            try dsimp only at hSw
            go_simp
          try simp only [Act.put, zq1, zq2, zq3, zq4, zq5, zq6]
          refine wT (i := 9) (v := .int .i64 (NK : Int)) rfl (Or.inl ⟨by rfl, ?_⟩) hHeld ?_
          · intro wq hSw
            try dsimp only at hSw
            go_simp
          try simp only [Act.put, zq1, zq2, zq3, zq4, zq5, zq6]
          refine wT (i := 12) (v := .int .i64 (-1074)) rfl (Or.inl ⟨by rfl, ?_⟩) hHeld ?_
          · intro wq hSw
            try dsimp only at hSw
            go_simp
          try simp only [Act.put, zq1, zq2, zq3, zq4, zq5, zq6]
          refine wT (i := 14) (v := .int .i64 0) rfl (Or.inl ⟨by rfl, ?_⟩) hHeld ?_
          · intro wq hSw
            try dsimp only at hSw
            go_simp
          try simp only [Act.put, zq1, zq2, zq3, zq4, zq5, zq6]
          refine wR 10 (by kernel_rfl) rfl (fun KK hK => ?_)
          simp only [zq1, zq2, zq3]
          rw [if_pos (by rfl)]
          refine wps2 108 (.tmp 95) (.tmp 99) _ rfl in_l2shl_r (.agg #[.slice a6 zM.length c6]) (.int .i64 (NK : Int)) rfl rfl (shl_spec _ r6 lM.1 (by omega) NK (.inr hkb) (by omega)) ?_
          rintro e w13 ⟨v9, rfl, r9, k13⟩
          refine ⟨_, rfl, ?_⟩
          replace r6 := r6.kept k13 (.inr (.inr (Nat.le_refl 0)))
          replace qf0 := k13.loose0 (World.block_lt_of_cell? _ _ q0) qf0
          replace qf1 := k13.loose0 (World.block_lt_of_cell? _ _ q1) qf1
          replace qf2 := k13.loose0 (World.block_lt_of_cell? _ _ q2) qf2
          replace qf3 := k13.loose0 (World.block_lt_of_cell? _ _ q3) qf3
          replace p0 := k13.cell0 p0
          replace p1 := k13.cell0 p1
          replace p2 := k13.cell0 p2
          replace q0 := k13.cell0 q0
          replace q1 := k13.cell0 q1
          replace q2 := k13.cell0 q2
          replace q3 := k13.cell0 q3
          replace t0 := k13.cell0 t0
          replace t1 := k13.cell0 t1
          replace t2 := k13.cell0 t2
          replace K := hide ((unhide K).trans k13)
          have z14 := k13.size
          clear k13
          clear hHeld
          refine hK.out _ _ ?_ (fun hHeld => ?_)
          · exact ⟨t0, t1, t2⟩
          clear hK KK
          try simp only [Act.put, zq1, zq2, zq3, zq4, zq5, zq6]
          rw [hVV] at r9
          obtain ⟨a9, c9, hv⟩ := Row.form' r9
          subst hv
          refine wR 11 (by kernel_rfl) rfl (fun KK hK => ?_)
          simp only [zq1, zq2, zq3]
          rw [if_pos (by rfl)]
          refine wps1 107 (.tmp 100) _ rfl in_l2int_r (.agg #[.slice a9 (limbs VV).length c9]) rfl (int_spec _ r9 (limbs_lim _) (by rw [limbs_val]; omega)) ?_
          rintro e w15 ⟨rfl, k15⟩
          refine ⟨_, rfl, ?_⟩
          replace r6 := r6.kept k15 (.inr (.inr (Nat.le_refl 0)))
          replace r9 := r9.kept k15 (.inr (.inr (Nat.le_refl 0)))
          replace qf0 := k15.loose0 (World.block_lt_of_cell? _ _ q0) qf0
          replace qf1 := k15.loose0 (World.block_lt_of_cell? _ _ q1) qf1
          replace qf2 := k15.loose0 (World.block_lt_of_cell? _ _ q2) qf2
          replace qf3 := k15.loose0 (World.block_lt_of_cell? _ _ q3) qf3
          replace p0 := k15.cell0 p0
          replace p1 := k15.cell0 p1
          replace p2 := k15.cell0 p2
          replace q0 := k15.cell0 q0
          replace q1 := k15.cell0 q1
          replace q2 := k15.cell0 q2
          replace q3 := k15.cell0 q3
          replace t0 := k15.cell0 t0
          replace t1 := k15.cell0 t1
          replace t2 := k15.cell0 t2
          replace K := hide ((unhide K).trans k15)
          have z16 := k15.size
          clear k15
          clear hHeld
          refine hK.out _ _ ?_ (fun hHeld => ?_)
          · exact ⟨t0, t1, t2⟩
          clear hK KK
          try simp only [Act.put, zq1, zq2, zq3, zq4, zq5, zq6]
          rw [limbs_val]
          refine wT (i := 13) (v := .agg #[.int .i64 1, .bool sM, .int .i64 (VV : Int), .int .i64 (-1074)]) rfl (Or.inl ⟨by rfl, ?_⟩) hHeld ?_
          · intro wq hSw
            try dsimp only at hSw
            go_simp
          try simp only [Act.put, zq1, zq2, zq3, zq4, zq5, zq6]
          refine wR 15 (by kernel_rfl) rfl (fun KK hK => ?_)
          simp only [zq1, zq2, zq3]
          rw [if_pos (by rfl)]
          go_simp
          clear hHeld
          refine hK.out _ _ ?_ (fun hHeld => ?_)
          · have sq := unhide S0; exact ⟨(cell_aside _ (by dsimp only; omega) (cell_aside _ (by dsimp only; omega) (cell_aside _ (by dsimp only; omega) (cell_aside _ (by dsimp only; omega) t0)))), (cell_aside _ (by dsimp only; omega) (cell_aside _ (by dsimp only; omega) (cell_aside _ (by dsimp only; omega) (cell_aside _ (by dsimp only; omega) t1)))), (cell_aside _ (by dsimp only; omega) (cell_aside _ (by dsimp only; omega) (cell_aside _ (by dsimp only; omega) (cell_aside _ (by dsimp only; omega) t2))))⟩
          clear hK KK
          try simp only [Act.put, zq1, zq2, zq3, zq4, zq5, zq6]
          refine wT (i := 16) (v := .int .i64 0) rfl (Or.inl ⟨by rfl, ?_⟩) hHeld ?_
          · intro wq hSw
            try dsimp only at hSw
            go_simp
          try simp only [Act.put, zq1, zq2, zq3, zq4, zq5, zq6]
          refine wpAnyH_done (by kernel_rfl) ?_ _
          clear hHeld
          have KF := hide (((((unhide K).setNew (p := ⟨w.heap.size + 1, 0, none⟩) (by simp) (.int .i64 1)).setNew (p := ⟨w.heap.size + 1, 1, none⟩) (by simp) (.bool sM)).setNew (p := ⟨w.heap.size + 1, 2, none⟩) (by simp) (.int .i64 (VV : Int))).setNew (p := ⟨w.heap.size + 1, 3, none⟩) (by simp) (.int .i64 (-1074)))
          clear r6 r9 K 
          try go_wp2_with fail
          exact bodyPost_ret (v := .tuple #[.agg #[.int .i64 1, .bool sM, .int .i64 (VV : Int), .int .i64 (-1074)], .int .i64 0]) (by simp [results, Tryz.results62, go_sem, q0, q1, q2, q3, or_14s]) rfl ⟨by rw [unhide FA, unhide FF], unhide KF⟩
        · obtain ⟨g1, g2⟩ := unhide HF2 (TR - 53) (by omega)
          have hq := flI_le R (TT - 53) hRb
          rw [g2] at f1 hq
          have FA := hide f1
          have FF := hide f2
          clear f1 f2 g2 HF2
          obtain ⟨NK, hNK⟩ : ∃ K : Nat, eM - (TR - 53) = K := ⟨(eM - (TR - 53)).toNat, by omega⟩
          have hkb : NK ≤ 800000 := by omega
          have hwk : IntKind.i64.wrap (eM - (TR - 53)) = (NK : Int) := by rw [w64 _ (by omega) (by omega)]; exact hNK
          have hkk : (eM - (TR - 53)).toNat = NK := by omega
          rw [hkk] at FA hq
          dsimp only at hq
          clear hkk hNK
          go_wp2_with fail
          obtain ⟨VV, hVV⟩ : ∃ y, (val zM).toNat * 2 ^ NK = y := ⟨_, rfl⟩
          rw [hVV] at FA hq
          have hVb : VV ≤ 9007199254740992 := by omega
          clear hq
          have n_qf0 := qf0
          have n_q0 := q0
          have n_qf1 := qf1
          have n_q1 := q1
          have n_qf2 := qf2
          have n_q2 := q2
          have n_qf3 := qf3
          have n_q3 := q3
          have kd := (Kept.refl 0 0 w10).drew
          replace r6 := r6.kept kd (.inr (.inr (Nat.le_refl 0)))
          replace qf0 := kd.loose0 (World.block_lt_of_cell? _ _ q0) qf0
          replace qf1 := kd.loose0 (World.block_lt_of_cell? _ _ q1) qf1
          replace qf2 := kd.loose0 (World.block_lt_of_cell? _ _ q2) qf2
          replace qf3 := kd.loose0 (World.block_lt_of_cell? _ _ q3) qf3
          replace p0 := kd.cell0 p0
          replace p1 := kd.cell0 p1
          replace p2 := kd.cell0 p2
          replace q0 := kd.cell0 q0
          replace q1 := kd.cell0 q1
          replace q2 := kd.cell0 q2
          replace q3 := kd.cell0 q3
          replace t0 := kd.cell0 t0
          replace t1 := kd.cell0 t1
          replace t2 := kd.cell0 t2
          replace K := hide ((unhide K).trans kd)
          have z12 := kd.size
          clear kd
          refine wp_region_held_drew (S := (fun w' => w'.cell? ⟨w3.heap.size, 0, none⟩ = some (.bool sM) ∧ w'.cell? ⟨w3.heap.size, 1, none⟩ = some (.slice a6 zM.length c6) ∧ w'.cell? ⟨w3.heap.size, 2, none⟩ = some (.int .i64 eM))) (by kernel_rfl) ?_ (fun hHeld => ?_)
          · exact ⟨t0, t1, t2⟩
          refine wT (i := 0) (v := .pointer (some ⟨w3.heap.size, 0, none⟩)) rfl (Or.inl ⟨by rfl, ?_⟩) hHeld ?_
          · intro wq hSw
            try dsimp only at hSw
            go_simp
          try simp only [Act.put, zq1, zq2, zq3, zq4, zq5, zq6]
          refine wT (i := 1) (v := .pointer (some ⟨w3.heap.size, 0, none⟩)) rfl (Or.inl ⟨by rfl, ?_⟩) hHeld ?_
          · intro wq hSw
            try dsimp only at hSw
            go_simp
          try simp only [Act.put, zq1, zq2, zq3, zq4, zq5, zq6]
          refine wT (i := 2) (v := .bool sM) rfl (Or.inl ⟨by rfl, ?_⟩) hHeld ?_
          · intro wq hSw
            try dsimp only at hSw
            go_simp
          try simp only [Act.put, zq1, zq2, zq3, zq4, zq5, zq6]
          refine wT (i := 3) (v := .pointer (some ⟨w3.heap.size, 0, none⟩)) rfl (Or.inl ⟨by rfl, ?_⟩) hHeld ?_
          · intro wq hSw
            try dsimp only at hSw
            go_simp
          try simp only [Act.put, zq1, zq2, zq3, zq4, zq5, zq6]
          refine wT (i := 4) (v := .pointer (some ⟨w3.heap.size, 1, none⟩)) rfl (Or.inl ⟨by rfl, ?_⟩) hHeld ?_
          · intro wq hSw
            try dsimp only at hSw
            go_simp
          try simp only [Act.put, zq1, zq2, zq3, zq4, zq5, zq6]
          refine wT (i := 5) (v := .agg #[.slice a6 zM.length c6]) rfl (Or.inl ⟨by rfl, ?_⟩) hHeld ?_
          · intro wq hSw
            try dsimp only at hSw
            go_simp
          try simp only [Act.put, zq1, zq2, zq3, zq4, zq5, zq6]
          refine wT (i := 6) (v := .pointer (some ⟨w3.heap.size, 2, none⟩)) rfl (Or.inl ⟨by rfl, ?_⟩) hHeld ?_
          · intro wq hSw
            try dsimp only at hSw
            go_simp
          try simp only [Act.put, zq1, zq2, zq3, zq4, zq5, zq6]
          refine wT (i := 7) (v := .int .i64 eM) rfl (Or.inl ⟨by rfl, ?_⟩) hHeld ?_
          · intro wq hSw
            try dsimp only at hSw
            go_simp
          try simp only [Act.put, zq1, zq2, zq3, zq4, zq5, zq6]
          refine wT (i := 8) (v := .int .i64 (TR - 53)) rfl (Or.inl ⟨by rfl, ?_⟩) hHeld ?_
          · intro wq hSw
            try dsimp only at hSw
            go_simp
          try simp only [Act.put, zq1, zq2, zq3, zq4, zq5, zq6]
          refine wT (i := 9) (v := .int .i64 (NK : Int)) rfl (Or.inl ⟨by rfl, ?_⟩) hHeld ?_
          · intro wq hSw
            try dsimp only at hSw
            go_simp
          try simp only [Act.put, zq1, zq2, zq3, zq4, zq5, zq6]
          refine wT (i := 12) (v := .int .i64 (TR - 53)) rfl (Or.inl ⟨by rfl, ?_⟩) hHeld ?_
          · intro wq hSw
            try dsimp only at hSw
            go_simp
          try simp only [Act.put, zq1, zq2, zq3, zq4, zq5, zq6]
          refine wT (i := 14) (v := .int .i64 0) rfl (Or.inl ⟨by rfl, ?_⟩) hHeld ?_
          · intro wq hSw
            try dsimp only at hSw
            go_simp
          try simp only [Act.put, zq1, zq2, zq3, zq4, zq5, zq6]
          refine wR 10 (by kernel_rfl) rfl (fun KK hK => ?_)
          simp only [zq1, zq2, zq3]
          rw [if_pos (by rfl)]
          refine wps2 108 (.tmp 95) (.tmp 99) _ rfl in_l2shl_r (.agg #[.slice a6 zM.length c6]) (.int .i64 (NK : Int)) rfl rfl (shl_spec _ r6 lM.1 (by omega) NK (.inr hkb) (by omega)) ?_
          rintro e w13 ⟨v9, rfl, r9, k13⟩
          refine ⟨_, rfl, ?_⟩
          replace r6 := r6.kept k13 (.inr (.inr (Nat.le_refl 0)))
          replace qf0 := k13.loose0 (World.block_lt_of_cell? _ _ q0) qf0
          replace qf1 := k13.loose0 (World.block_lt_of_cell? _ _ q1) qf1
          replace qf2 := k13.loose0 (World.block_lt_of_cell? _ _ q2) qf2
          replace qf3 := k13.loose0 (World.block_lt_of_cell? _ _ q3) qf3
          replace p0 := k13.cell0 p0
          replace p1 := k13.cell0 p1
          replace p2 := k13.cell0 p2
          replace q0 := k13.cell0 q0
          replace q1 := k13.cell0 q1
          replace q2 := k13.cell0 q2
          replace q3 := k13.cell0 q3
          replace t0 := k13.cell0 t0
          replace t1 := k13.cell0 t1
          replace t2 := k13.cell0 t2
          replace K := hide ((unhide K).trans k13)
          have z14 := k13.size
          clear k13
          clear hHeld
          refine hK.out _ _ ?_ (fun hHeld => ?_)
          · exact ⟨t0, t1, t2⟩
          clear hK KK
          try simp only [Act.put, zq1, zq2, zq3, zq4, zq5, zq6]
          rw [hVV] at r9
          obtain ⟨a9, c9, hv⟩ := Row.form' r9
          subst hv
          refine wR 11 (by kernel_rfl) rfl (fun KK hK => ?_)
          simp only [zq1, zq2, zq3]
          rw [if_pos (by rfl)]
          refine wps1 107 (.tmp 100) _ rfl in_l2int_r (.agg #[.slice a9 (limbs VV).length c9]) rfl (int_spec _ r9 (limbs_lim _) (by rw [limbs_val]; omega)) ?_
          rintro e w15 ⟨rfl, k15⟩
          refine ⟨_, rfl, ?_⟩
          replace r6 := r6.kept k15 (.inr (.inr (Nat.le_refl 0)))
          replace r9 := r9.kept k15 (.inr (.inr (Nat.le_refl 0)))
          replace qf0 := k15.loose0 (World.block_lt_of_cell? _ _ q0) qf0
          replace qf1 := k15.loose0 (World.block_lt_of_cell? _ _ q1) qf1
          replace qf2 := k15.loose0 (World.block_lt_of_cell? _ _ q2) qf2
          replace qf3 := k15.loose0 (World.block_lt_of_cell? _ _ q3) qf3
          replace p0 := k15.cell0 p0
          replace p1 := k15.cell0 p1
          replace p2 := k15.cell0 p2
          replace q0 := k15.cell0 q0
          replace q1 := k15.cell0 q1
          replace q2 := k15.cell0 q2
          replace q3 := k15.cell0 q3
          replace t0 := k15.cell0 t0
          replace t1 := k15.cell0 t1
          replace t2 := k15.cell0 t2
          replace K := hide ((unhide K).trans k15)
          have z16 := k15.size
          clear k15
          clear hHeld
          refine hK.out _ _ ?_ (fun hHeld => ?_)
          · exact ⟨t0, t1, t2⟩
          clear hK KK
          try simp only [Act.put, zq1, zq2, zq3, zq4, zq5, zq6]
          rw [limbs_val]
          refine wT (i := 13) (v := .agg #[.int .i64 1, .bool sM, .int .i64 (VV : Int), .int .i64 (TR - 53)]) rfl (Or.inl ⟨by rfl, ?_⟩) hHeld ?_
          · intro wq hSw
            try dsimp only at hSw
            go_simp
          try simp only [Act.put, zq1, zq2, zq3, zq4, zq5, zq6]
          refine wR 15 (by kernel_rfl) rfl (fun KK hK => ?_)
          simp only [zq1, zq2, zq3]
          rw [if_pos (by rfl)]
          go_simp
          clear hHeld
          refine hK.out _ _ ?_ (fun hHeld => ?_)
          · have sq := unhide S0; exact ⟨(cell_aside _ (by dsimp only; omega) (cell_aside _ (by dsimp only; omega) (cell_aside _ (by dsimp only; omega) (cell_aside _ (by dsimp only; omega) t0)))), (cell_aside _ (by dsimp only; omega) (cell_aside _ (by dsimp only; omega) (cell_aside _ (by dsimp only; omega) (cell_aside _ (by dsimp only; omega) t1)))), (cell_aside _ (by dsimp only; omega) (cell_aside _ (by dsimp only; omega) (cell_aside _ (by dsimp only; omega) (cell_aside _ (by dsimp only; omega) t2))))⟩
          clear hK KK
          try simp only [Act.put, zq1, zq2, zq3, zq4, zq5, zq6]
          refine wT (i := 16) (v := .int .i64 0) rfl (Or.inl ⟨by rfl, ?_⟩) hHeld ?_
          · intro wq hSw
            try dsimp only at hSw
            go_simp
          try simp only [Act.put, zq1, zq2, zq3, zq4, zq5, zq6]
          refine wpAnyH_done (by kernel_rfl) ?_ _
          clear hHeld
          have KF := hide (((((unhide K).setNew (p := ⟨w.heap.size + 1, 0, none⟩) (by simp) (.int .i64 1)).setNew (p := ⟨w.heap.size + 1, 1, none⟩) (by simp) (.bool sM)).setNew (p := ⟨w.heap.size + 1, 2, none⟩) (by simp) (.int .i64 (VV : Int))).setNew (p := ⟨w.heap.size + 1, 3, none⟩) (by simp) (.int .i64 (TR - 53)))
          clear r6 r9 K 
          try go_wp2_with fail
          exact bodyPost_ret (v := .tuple #[.agg #[.int .i64 1, .bool sM, .int .i64 (VV : Int), .int .i64 (TR - 53)], .int .i64 0]) (by simp [results, Tryz.results62, go_sem, q0, q1, q2, q3, or_14s]) rfl ⟨by rw [unhide FA, unhide FF], unhide KF⟩

end Go.Proofs.YtepehpkmejjhiaaGreatDoor

