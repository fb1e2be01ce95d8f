/-
  Floats of whole numbers: they are numbers, exact where no flag tells otherwise, and come back.
-/
import Derived.Test.YtckaecmkidplhaaGreatDoorFlRd
import Derived.Test.YtckaecmkidplhaaGreatDoorFti
namespace Go.Proofs.YtckaecmkidplhaaGreatDoor
open Go.RowKit
set_option linter.unusedVariables false
set_option maxRecDepth 8000

theorem fi_low (V : Nat) : flLow V 0 = (bitsN V : Int) - 53 := by unfold flLow flTop; omega
theorem fi_len {V : Nat} (hV : V < 2 ^ 64) : bitsN V ≤ 64 := (bitsN_le _ _).2 hV
theorem fi_H (V : Nat) : flH V 0 = scN V (54 - (bitsN V : Int)) ∧ flL V 0 = scL V (54 - (bitsN V : Int)) := by
  unfold flH flL
  rw [fi_low, show (0 : Int) - ((bitsN V : Int) - 53 - 1) = 54 - (bitsN V : Int) by omega]
  exact ⟨rfl, rfl⟩
theorem rndN_exact (mode : Nat) (s : Bool) {H : Nat} {L : Bool} (h : rndX H L = true) : rndN mode s H L = H / 2 := by
  unfold rndN
  rw [h]
  simp
theorem rndX_parts {H : Nat} {L : Bool} (h : rndX H L = true) : H % 2 = 0 ∧ L = false := by
  unfold rndX at h
  simpa using h
theorem flG_zero {mode : Int} {s : Bool} {V : Nat} (h0 : V ≠ 0) (h : flG mode s V 0 = 0) : flX V 0 = true := by
  unfold flG at h
  rw [if_neg h0] at h
  split at h
  · cases h
  · unfold flF at h
    split at h
    · assumption
    · split at h <;> cases h
theorem fi_top {mode : Int} {s : Bool} {V : Nat} (h0 : V ≠ 0) (hV : V < 2 ^ 64) : 2 ^ 52 ≤ flR mode.toNat s V 0 ∧ flR mode.toNat s V 0 ≤ 2 ^ 53 ∧ ¬ 1024 < topI (limbs (flR mode.toNat s V 0)) (flLow V 0) := by
  have h1 := flR_le mode.toNat s V 0
  have h2 := flR_ge mode.toNat s h0 (x := 0) (by rw [fi_low]; omega)
  have h3 := fi_len hV
  refine ⟨h2, h1, ?_⟩
  have hp : (0 : Nat) < 2 ^ 52 := by decide
  rw [topI_limbs (by omega), fi_low]
  have h4 : bitsN (flR mode.toNat s V 0) ≤ 54 := (bitsN_le _ _).2 (by
    have : (2 : Nat) ^ 53 < 2 ^ 54 := by decide
    omega)
  omega
/-- An exact float is the number. -/
theorem fi_exact {mode : Nat} {s : Bool} {V : Nat} (h0 : V ≠ 0) (hV : V < 2 ^ 64) (h : flX V 0 = true) : flR mode s V 0 * 2 ^ (bitsN V + 47) = V * 2 ^ 100 := by
  obtain ⟨e1, e2⟩ := fi_H V
  have hr : flR mode s V 0 = flH V 0 / 2 := rndN_exact mode s h
  obtain ⟨p1, p2⟩ := rndX_parts h
  rw [hr]
  rw [e1] at p1 ⊢
  rw [e2] at p2
  have h3 := fi_len hV
  obtain ⟨t, ht⟩ : ∃ t, bitsN V = t := ⟨_, rfl⟩
  rw [ht] at p1 p2 h3 ⊢
  have key : scN V (54 - (t : Int)) * 2 ^ (t + 46) = V * 2 ^ 100 := by
    by_cases hk : t ≤ 54
    · obtain ⟨K, hK⟩ : ∃ K : Nat, 54 - (t : Int) = (K : Int) := ⟨54 - t, by omega⟩
      rw [hK, scN_up, Nat.mul_assoc, ← Nat.pow_add, show K + (t + 46) = 100 by omega]
    · obtain ⟨K, hK⟩ : ∃ K : Nat, 54 - (t : Int) = -(K : Int) := ⟨t - 54, by omega⟩
      rw [hK, scL_down _ _ (by omega)] at p2
      have p3 : V % 2 ^ K = 0 := by simpa using p2
      rw [hK, scN_down _ _ (by omega), show t + 46 = K + 100 by omega, Nat.pow_add, ← Nat.mul_assoc, Nat.div_mul_cancel (Nat.dvd_of_mod_eq_zero p3)]
  obtain ⟨H, hH⟩ : ∃ H, scN V (54 - (t : Int)) = H := ⟨_, rfl⟩
  rw [hH] at key p1 ⊢
  have e : H / 2 * 2 = H := by omega
  rw [show t + 47 = 1 + (t + 46) by omega, Nat.pow_add, ← Nat.mul_assoc, Nat.pow_one, e, key]
/-- Whole numbers below 2^53 are exact. -/
theorem fi_small {mode : Int} {s : Bool} {V : Nat} (h0 : V ≠ 0) (hV : V < 2 ^ 53) : flG mode s V 0 = 0 := by
  have hV4 : V < 2 ^ 64 := Nat.lt_trans hV (by decide)
  have ht : bitsN V ≤ 53 := (bitsN_le _ _).2 hV
  have hx : flX V 0 = true := by
    obtain ⟨e1, e2⟩ := fi_H V
    unfold flX
    rw [e1, e2]
    obtain ⟨K, hK⟩ : ∃ K : Nat, 54 - (bitsN V : Int) = ((K + 1 : Nat) : Int) := ⟨53 - bitsN V, by omega⟩
    rw [hK, scN_up, scL_up, Nat.pow_succ, ← Nat.mul_assoc]
    unfold rndX
    simp
  obtain ⟨-, -, h3⟩ := fi_top (mode := mode) (s := s) h0 hV4
  unfold flG flF
  rw [if_neg h0, if_neg h3, if_pos hx]
/-- What the float of a whole number is. -/
theorem fi_num (mode : Int) (s : Bool) {V : Nat} (h0 : V ≠ 0) (hV : V < 2 ^ 64) : ∃ (M : Nat) (e : Int), flA mode s V 0 = (1, (M : Int), e) ∧ flok 1 s (M : Int) e = true ∧ -53 ≤ e ∧ e ≤ 12 ∧ (flG mode s V 0 = 0 → M * 2 ^ (e + 100).toNat = V * 2 ^ 100) := by
  obtain ⟨r1, r2, h3⟩ := fi_top (mode := mode) (s := s) h0 hV
  have ht := fi_len hV
  have hb0 : 0 < bitsN V := bits_pos h0
  have hx : flG mode s V 0 = 0 → flR mode.toNat s V 0 * 2 ^ (bitsN V + 47) = V * 2 ^ 100 := fun h => fi_exact h0 hV (flG_zero h0 h)
  have ha : flA mode s V 0 = flI (flR mode.toNat s V 0) (flLow V 0) := by unfold flA; rw [if_neg h0, if_neg h3]
  obtain ⟨R, hR⟩ : ∃ R, flR mode.toNat s V 0 = R := ⟨_, rfl⟩
  rw [hR] at r1 r2 hx ha
  have p52 : (2 : Nat) ^ 52 = 4503599627370496 := by decide
  have p53 : (2 : Nat) ^ 53 = 9007199254740992 := by decide
  rw [p52] at r1
  rw [p53] at r2
  rw [ha, fi_low]
  unfold flI
  rw [if_neg (by omega)]
  by_cases hb : 53 < bitsN R
  · have hR2 : R = 9007199254740992 := by
      have : ¬ bitsN R ≤ 53 := by omega
      rw [bitsN_le, p53] at this
      omega
    rw [if_pos hb]
    refine ⟨R / 2, _, rfl, ?_, by omega, by omega, fun h => ?_⟩
    · unfold flok
      rw [if_pos rfl]
      exact decide_eq_true (by omega)
    · have h2 := hx h
      rw [show ((bitsN V : Int) - 53 + 1 + 100).toNat = 1 + (bitsN V + 47) by omega, Nat.pow_add, ← Nat.mul_assoc, Nat.pow_one, show R / 2 * 2 = R by omega]
      exact h2
  · rw [if_neg hb]
    have hR2 : R < 9007199254740992 := by
      have : bitsN R ≤ 53 := by omega
      rw [bitsN_le, p53] at this
      exact this
    refine ⟨R, _, rfl, ?_, by omega, by omega, fun h => ?_⟩
    · unfold flok
      rw [if_pos rfl]
      exact decide_eq_true (by omega)
    · have h2 := hx h
      rw [show ((bitsN V : Int) - 53 + 100).toNat = bitsN V + 47 by omega]
      exact h2
/-- It comes back. -/
theorem fi_back {M V : Nat} {e : Int} (s : Bool) (h : M * 2 ^ (e + 100).toNat = V * 2 ^ 100) (h1 : -53 ≤ e) (h2 : e ≤ 12) : rndM 1 s M (e + 1) = wval s (limbs V) := by
  have key : scN M (e + 1) = V * 2 ∧ scL M (e + 1) = false := by
    by_cases hk : 0 ≤ e + 1
    · obtain ⟨K, hK⟩ : ∃ K : Nat, e + 1 = (K : Int) := ⟨(e + 1).toNat, by omega⟩
      rw [hK, scN_up, scL_up]
      refine ⟨?_, rfl⟩
      rw [show (e + 100).toNat = K + 99 by omega, Nat.pow_add, ← Nat.mul_assoc, show (100 : Nat) = 1 + 99 from rfl, Nat.pow_add 2 1 99, ← Nat.mul_assoc, Nat.pow_one] at h
      exact Nat.eq_of_mul_eq_mul_right (Nat.pow_pos (by decide)) h
    · obtain ⟨K, hK⟩ : ∃ K : Nat, e + 1 = -(K : Int) := ⟨(-(e + 1)).toNat, by omega⟩
      have hp : 0 < 2 ^ K := Nat.pow_pos (by decide)
      have hm : M = V * 2 * 2 ^ K := by
        obtain ⟨J, hJ⟩ : ∃ J, J = 99 - K := ⟨_, rfl⟩
        rw [show (e + 100).toNat = J by omega, show (100 : Nat) = 1 + K + J by omega, Nat.pow_add, ← Nat.mul_assoc, Nat.pow_add, ← Nat.mul_assoc, Nat.pow_one] at h
        exact Nat.eq_of_mul_eq_mul_right (Nat.pow_pos (by decide)) h
      rw [hK, scN_down _ _ (by omega), scL_down _ _ (by omega), hm]
      refine ⟨Nat.mul_div_cancel _ hp, ?_⟩
      rw [Nat.mul_mod_left]
      rfl
  unfold rndM
  rw [key.1, key.2, rndN_exact _ _ (by unfold rndX; simp), Nat.mul_div_cancel _ (by decide)]
theorem wval_wsg (n : Int) : wval (wsg n) (limbs n.natAbs) = n := by
  unfold wval wsg
  rw [limbs_val]
  by_cases h : n < 0
  · rw [decide_eq_true h, if_pos rfl]; omega
  · rw [decide_eq_false h, if_neg (by decide)]; omega
/-- All of it. -/
theorem fi_law (n mode : Int) (hn1 : n ≤ 9223372036854775807) (hn0 : -9223372036854775808 ≤ n) (hm : modeB mode = true) :
    tiB (fiQ n mode).1 (fiQ n mode).2.1 (fiQ n mode).2.2.1 (fiQ n mode).2.2.2 1 = true ∧ (fiG n mode = 0 → tiS (fiQ n mode).1 (fiQ n mode).2.1 (fiQ n mode).2.2.1 (fiQ n mode).2.2.2 1 = wsg n ∧ tiL (fiQ n mode).1 (fiQ n mode).2.1 (fiQ n mode).2.2.1 (fiQ n mode).2.2.2 1 = wlm n) ∧ (-9007199254740992 < n → n < 9007199254740992 → fiG n mode = 0) := by
  unfold fiQ fiG
  rw [if_pos hm, if_pos hm]
  by_cases h0 : n = 0
  · subst h0
    have e : flA mode (wsg 0) (0 : Int).natAbs 0 = (0, 0, 0) := rfl
    have g : flG mode (wsg 0) (0 : Int).natAbs 0 = 0 := rfl
    rw [e, g]
    refine ⟨by decide, fun _ => by decide, fun _ _ => rfl⟩
  · have hV : n.natAbs < 2 ^ 64 := by
      have : (2 : Nat) ^ 64 = 18446744073709551616 := by decide
      omega
    obtain ⟨M, e, ha, ho, e1, e2, hx⟩ := fi_num mode (wsg n) (V := n.natAbs) (by omega) hV
    rw [ha]
    have hb : tiB 1 (wsg n) (M : Int) e 1 = true := by unfold tiB; rw [ho]; rfl
    refine ⟨hb, fun h => ?_, fun a b => ?_⟩
    · obtain ⟨t1, t2⟩ := ti_yes hb
      have hM : tiM 1 (wsg n) (M : Int) e 1 = n := by
        unfold tiM
        rw [if_pos rfl, Int.toNat_natCast, show (1 : Int).toNat = 1 from rfl, fi_back (wsg n) (hx h) e1 e2, wval_wsg]
      simp only
      rw [t1, t2, hM]
      exact ⟨rfl, rfl⟩
    · exact fi_small (by omega) (by
        have : (2 : Nat) ^ 53 = 9007199254740992 := by decide
        omega)

end Go.Proofs.YtckaecmkidplhaaGreatDoor

