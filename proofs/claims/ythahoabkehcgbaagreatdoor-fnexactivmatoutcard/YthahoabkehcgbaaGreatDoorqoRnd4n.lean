/-
  What is rounded: the model's l4ups and l4round.
-/
import Derived.Test.YthahoabkehcgbaaGreatDoorqoRnd3
import Derived.Test.YthahoabkehcgbaaGreatDoorqoBK
import Derived.Test.YthahoabkehcgbaaGreatDoorqoDy7
namespace Go.Proofs.YthahoabkehcgbaaGreatDoor
open Go.RowKit
set_option linter.unusedVariables false
set_option maxRecDepth 8000
set_option linter.unusedSimpArgs false

theorem bit_eq (n : Nat) : (((n % 2 : Nat) : Int) == 1) = decide (n % 2 = 1) := by
  rcases Nat.mod_two_eq_zero_or_one n with h | h <;> rw [h] <;> rfl
theorem sc_low (V K : Nat) (hK : 0 < K) : scN V (1 - (K : Int)) = V / 2 ^ (K - 1) ∧ scL V (1 - (K : Int)) = decide (V % 2 ^ (K - 1) ≠ 0) := by
  by_cases h1 : K = 1
  · subst h1
    have e : (1 : Int) - ((1 : Nat) : Int) = ((0 : Nat) : Int) := by decide
    rw [e, scN_up, scL_up]
    simp [Nat.mod_one]
  · have e : (1 : Int) - (K : Int) = -((K - 1 : Nat) : Int) := by omega
    rw [e, scN_down _ _ (by omega), scL_down _ _ (by omega)]
    exact ⟨rfl, rfl⟩
theorem rnd_low {V K : Nat} (hK : 0 < K) (hV : V % 2 = 1) (mode : Nat) (s : Bool) :
    rndX (scN V (1 - (K : Int))) (scL V (1 - (K : Int))) = false ∧
    rndN mode s (scN V (1 - (K : Int))) (scL V (1 - (K : Int))) = V / 2 ^ K + (if upsB mode s (decide (V / 2 ^ K % 2 = 1)) (decide (V / 2 ^ (K - 1) % 2 = 1)) (decide (V % 2 ^ (K - 1) ≠ 0)) = true then 1 else 0) := by
  obtain ⟨e1, e2⟩ := sc_low V K hK
  have hX : rndX (V / 2 ^ (K - 1)) (decide (V % 2 ^ (K - 1) ≠ 0)) = false := by
    unfold rndX
    by_cases h1 : K = 1
    · subst h1
      simp
      omega
    · have h2 : V % 2 ^ (K - 1) ≠ 0 := by
        intro h
        have h3 : 2 ^ (K - 1) ∣ V := Nat.dvd_of_mod_eq_zero h
        have h4 : 2 ∣ V := Nat.dvd_trans (by have := Nat.pow_dvd_pow 2 (show 1 ≤ K - 1 by omega); simpa using this) h3
        omega
      simp [h2]
  have hD : V / 2 ^ (K - 1) / 2 = V / 2 ^ K := by
    rw [Nat.div_div_eq_div_mul, ← Nat.pow_succ, show (K - 1).succ = K by omega]
  rw [e1, e2]
  refine ⟨hX, ?_⟩
  unfold rndN
  rw [hX, hD]
  simp only [Bool.not_false, Bool.true_and]
theorem rnd_high (V k : Nat) (mode : Nat) (s : Bool) : rndX (scN V ((k : Int) + 1)) (scL V ((k : Int) + 1)) = true ∧ rndN mode s (scN V ((k : Int) + 1)) (scL V ((k : Int) + 1)) = V * 2 ^ k := by
  have e : (k : Int) + 1 = ((k + 1 : Nat) : Int) := by omega
  rw [e, scN_up, scL_up]
  have hm : V * 2 ^ (k + 1) % 2 = 0 := by rw [Nat.pow_succ, ← Nat.mul_assoc]; omega
  have hd : V * 2 ^ (k + 1) / 2 = V * 2 ^ k := by rw [Nat.pow_succ, ← Nat.mul_assoc]; omega
  have hX : rndX (V * 2 ^ (k + 1)) false = true := by unfold rndX; simp [hm]
  refine ⟨hX, ?_⟩
  unfold rndN
  rw [hX, hd]
  simp
theorem rnd_zero (k : Int) (mode : Nat) (s : Bool) : rndX (scN 0 k) (scL 0 k) = true ∧ rndN mode s (scN 0 k) (scL 0 k) = 0 := by
  have e1 : scN 0 k = 0 := by unfold scN; split <;> simp
  have e2 : scL 0 k = false := by unfold scL; split <;> simp
  rw [e1, e2]
  have hX : rndX 0 false = true := rfl
  refine ⟨hX, ?_⟩
  unfold rndN
  rw [hX]
  simp
theorem wlm_rnd (s : Bool) (n : Nat) : wlm (wval s (limbs n)) = limbs n := by rw [wlm_wval s (limbs_lim _), limbs_val, Int.toNat_natCast]
/-- What a number becomes: its whole number, with its sign. -/
def rndM (mode : Nat) (s : Bool) (V : Nat) (k : Int) : Int := wval s (limbs (rndN mode s (scN V k) (scL V k)))
theorem wval_mul (s : Bool) (zs : List Int) (h : Lim zs) (n : Nat) : wval s (limbs ((val zs).toNat * n)) = wval s zs * n := by
  have h0 := val_nonneg h
  have e : (((val zs).toNat * n : Nat) : Int) = val zs * n := by rw [Int.natCast_mul]; congr 1; omega
  unfold wval
  rw [limbs_val, e]
  cases s <;> simp [Int.neg_mul]
theorem rnd_same {s : Bool} {zs : List Int} {x low : Int} (hn : WN s zs) (ho : zs ≠ [] → val zs % 2 = 1) (hz : zs = [] → x = 0) (h : zs = [] ∨ low ≤ x) (mode : Nat) :
    rndX (scN (val zs).toNat (x - (low - 1))) (scL (val zs).toNat (x - (low - 1))) = true ∧ wsg (rndM mode s (val zs).toNat (x - (low - 1))) = s ∧ dlm (rndM mode s (val zs).toNat (x - (low - 1))) = zs ∧ dex (rndM mode s (val zs).toNat (x - (low - 1))) low = x := by
  by_cases h0 : zs = []
  · subst h0
    have hs : s = false := by
      cases hs : s with
      | false => rfl
      | true => have := hn.2 hs; simp at this
    obtain ⟨r1, r2⟩ := rnd_zero (x - (low - 1)) mode s
    have e0 : (val []).toNat = 0 := rfl
    have hM : rndM mode s 0 (x - (low - 1)) = 0 := by unfold rndM; rw [r2, limbs_zero, wval_nil]
    rw [e0, hM, hs, hz rfl]
    exact ⟨by rw [hz rfl] at r1; exact r1, rfl, dlm_zero, rfl⟩
  · have hle : low ≤ x := h.resolve_left h0
    obtain ⟨k, hk⟩ : ∃ k : Nat, x - low = k := ⟨(x - low).toNat, by omega⟩
    have e1 : x - (low - 1) = (k : Int) + 1 := by omega
    obtain ⟨r1, r2⟩ := rnd_high (val zs).toNat k mode s
    have hM : rndM mode s (val zs).toNat (x - (low - 1)) = wval s zs * 2 ^ k := by
      unfold rndM
      rw [e1, r2, wval_mul s zs hn.1.1]
      simp
    have hv0 := val_nonneg hn.1.1
    have hodd : (val zs).toNat % 2 = 1 := by have := ho h0; omega
    obtain ⟨d1, d2, d3⟩ := d_shift (wval s zs) x k
    have ex : x - (k : Int) = low := by omega
    rw [ex] at d2
    have ha := wval_abs (s := s) hn.1.1
    have htz : tz (val zs).toNat = 0 := tz_odd hodd
    have hne : wval s zs ≠ 0 := by intro e; rw [e] at ha; simp at ha; omega
    rw [hM, e1]
    refine ⟨r1, by rw [d3, wn_sign hn], ?_, ?_⟩
    · rw [d1]
      unfold dlm
      rw [ha, htz, Nat.pow_zero, Nat.div_one, ← nrm_limbs hn.1]
    · rw [d2]
      unfold dex
      rw [if_neg hne, ha, htz]
      simp

set_option maxHeartbeats 2000000 in
theorem ups_spec {bw : Bool} {lo hi : Nat} {v : Value} {zs : List Int} (s : Bool) (w : World) (r : Row .i64 bw lo hi w v zs) (hn : Nrm zs) (hne : zs ≠ []) (hl : zs.length ≤ 100000) (KX : Nat) (hK : 0 < KX) (hK2 : KX ≤ 1000000) (mode : Int) (hm0 : 0 ≤ mode) (hm4 : mode ≤ 4) :
    Calls Tryz.prog 201 #[.bool s, .agg #[v], .int .i64 (KX : Int), .int .i64 mode] w fun e w' => e = .returned (.bool (upsB mode.toNat s (decide ((val zs).toNat / 2 ^ KX % 2 = 1)) (decide ((val zs).toNat / 2 ^ (KX - 1) % 2 = 1)) (decide ((val zs).toNat % 2 ^ (KX - 1) ≠ 0)))) ∧ Kept 0 0 w w' := by
  have hv0 := val_nonneg hn.1
  have hV0 : (val zs).toNat ≠ 0 := fun e => hne (nrm_nil hn (by omega))
  obtain ⟨V, hV⟩ : ∃ V, (val zs).toNat = V := ⟨_, rfl⟩
  rw [hV]
  rw [hV] at hV0
  obtain ⟨BO, hBO⟩ : ∃ y, decide (V / 2 ^ KX % 2 = 1) = y := ⟨_, rfl⟩
  obtain ⟨BH, hBH⟩ : ∃ y, decide (V / 2 ^ (KX - 1) % 2 = 1) = y := ⟨_, rfl⟩
  obtain ⟨BM, hBM⟩ : ∃ y, decide (V % 2 ^ (KX - 1) ≠ 0) = y := ⟨_, rfl⟩
  rw [hBO, hBH, hBM]
  obtain ⟨cH, hcH⟩ : ∃ c : Int, (if (KX : Int) - 1 < 0 then (0 : Int) else ((V / 2 ^ ((KX : Int) - 1).toNat % 2 : Nat) : Int)) = c := ⟨_, rfl⟩
  obtain ⟨cO, hcO⟩ : ∃ c : Int, (if (KX : Int) < 0 then (0 : Int) else ((V / 2 ^ (KX : Int).toNat % 2 : Nat) : Int)) = c := ⟨_, rfl⟩
  have hbH : (cH == (1 : Int)) = BH := by
    rw [← hcH, ← hBH, if_neg (by omega), show ((KX : Int) - 1).toNat = KX - 1 by omega, bit_eq]
  have hbO : (cO == (1 : Int)) = BO := by
    rw [← hcO, ← hBO, if_neg (by omega), Int.toNat_natCast, bit_eq]
  have hw1 : IntKind.i64.wrap ((KX : Int) - 1) = (KX : Int) - 1 := w64 _ (by omega) (by omega)
  have HV := hide hV
  have HCH := hide hcH
  have HCO := hide hcO
  have HBM := hide hBM
  clear hV hBO hBH hBM hcH hcO
  have k0 : Kept 0 0 w (w.alloc (.cells #[v] 48)) := ((Kept.refl 0 0 w).alloc (.cells #[v] 48))
  have p0 : (w.alloc (.cells #[v] 48)).cell? ⟨w.heap.size, 0, none⟩ = some (v) := new_cell2 _ _ _ _ _ _ (by simp) rfl
  replace r := r.kept k0 (by omega)
  have s0 : (w.alloc (.cells #[v] 48)).heap.size = w.heap.size + 1 := by simp
  obtain ⟨a, c, hv⟩ := Row.form' r
  subst hv
  have K := hide (k0)
  clear k0
  have S0 := hide s0
  clear s0
  go_enter Tryz.func201, Tryz.ntmps201
  go_wp2_with fail
  generalize (w.alloc (.cells #[.slice a zs.length c] 48)) = W at *
  have hbt := bit_spec _ r hn.1 ((KX : Int) - 1) (by omega) (by omega)
  rw [unhide HV, unhide HCH] at hbt
  refine (hbt).mono ?_
  rintro e w1 ⟨rfl, k1⟩
  replace r := r.kept k1 (.inr (.inr (Nat.le_refl 0)))
  replace p0 := k1.cell0 p0
  replace K := hide ((unhide K).trans k1)
  have z2 := k1.size
  clear k1
  clear hbt
  go_wp2_with fail
  have htr := trail_spec _ r hn.1 (by omega)
  refine (htr).mono ?_
  rintro e w3 ⟨t, rfl, ht, k3⟩
  replace r := r.kept k3 (.inr (.inr (Nat.le_refl 0)))
  replace p0 := k3.cell0 p0
  replace K := hide ((unhide K).trans k3)
  have z4 := k3.size
  clear k3
  clear htr
  rw [unhide HV] at ht
  have hlt := lost_trail ht hV0 (KX - 1)
  rw [unhide HBM] at hlt
  have hbm : decide ((t : Int) < (KX : Int) - 1) = BM := by rw [← hlt]; exact decide_eq_decide.2 (by omega)
  clear ht hlt HBM HCH
  obtain rfl | rfl | rfl | rfl | rfl : mode = 0 ∨ mode = 1 ∨ mode = 2 ∨ mode = 3 ∨ mode = 4 := by omega
  · cases BH
    · clear r HCO
      go_wp2_with fail
      go_ret
      exact ⟨rfl, unhide K⟩
    · cases BM
      · go_wp2_with fail
        have hbt := bit_spec _ r hn.1 (KX : Int) (by omega) (by omega)
        rw [unhide HV, unhide HCO] at hbt
        refine (hbt).mono ?_
        rintro e w5 ⟨rfl, k5⟩
        replace r := r.kept k5 (.inr (.inr (Nat.le_refl 0)))
        replace p0 := k5.cell0 p0
        replace K := hide ((unhide K).trans k5)
        have z6 := k5.size
        clear k5
        clear hbt r HCO
        go_wp2_with fail
        go_ret
        exact ⟨by simp [upsB], unhide K⟩
      · clear r HCO
        go_wp2_with fail
        go_ret
        exact ⟨by simp [upsB], unhide K⟩
  · clear r HCO
    go_wp2_with fail
    go_ret
    exact ⟨by first | rfl | simp [upsB], unhide K⟩
  · clear r HCO
    go_wp2_with fail
    go_ret
    exact ⟨by first | rfl | simp [upsB], unhide K⟩
  · clear r HCO
    go_wp2_with fail
    go_ret
    exact ⟨by first | rfl | simp [upsB], unhide K⟩
  · clear r HCO
    go_wp2_with fail
    go_ret
    exact ⟨by first | rfl | simp [upsB], unhide K⟩

theorem in_l2of_r : ∀ (w : World) (args : Array Value), (callFunc 162 args).run Tryz.prog w = .ok (.enter 162 args) w := enters Tryz.func162 (by decide) (fun h => by cases h)

theorem in_l2add_r : ∀ (w : World) (args : Array Value), (callFunc 161 args).run Tryz.prog w = .ok (.enter 161 args) w := enters Tryz.func161 (by decide) (fun h => by cases h)

theorem limbs_succ_len (zs : List Int) (h : Nrm zs) : (limbs ((val zs).toNat + 1)).length ≤ zs.length + 1 := by
  have h1 := val_lt h.1
  have h2 := val_nonneg h.1
  refine (limbs_length_le _ _).2 ?_
  have e : (65536 : Int) ^ (zs.length + 1) = 65536 ^ zs.length * 65536 := Int.pow_succ _ _
  have e2 : (0 : Int) < 65536 ^ zs.length := Int.pow_pos (by decide)
  rw [e]
  generalize (65536 : Int) ^ zs.length = P at *
  omega

set_option maxHeartbeats 4000000 in
theorem round4_two {bw : Bool} {lo hi : Nat} {v : Value} {zs : List Int} (s : Bool) (x low : Int) (hx0 : -200000 ≤ x) (hx1 : x ≤ 200000) (hl0 : -200000 ≤ low) (hl1 : low ≤ 200000) (w : World) (r : Row .i64 bw lo hi w v zs) (hn : WN s zs) (ho : zs ≠ [] → val zs % 2 = 1) (hz : zs = [] → x = 0) (hl : zs.length ≤ 40000) (mode : Int) (hm0 : 0 ≤ mode) (hm4 : mode ≤ 4) :
    Calls Tryz.prog 163 #[.agg #[.bool s, v, .int .i64 x], .int .i64 low, .int .i64 mode] w fun e w' => ∃ v', e = .returned (.tuple #[.agg #[.bool (wsg (rndM mode.toNat s (val zs).toNat (x - (low - 1)))), v', .int .i64 (dex (rndM mode.toNat s (val zs).toNat (x - (low - 1))) low)], .bool (rndX (scN (val zs).toNat (x - (low - 1))) (scL (val zs).toNat (x - (low - 1))))]) ∧ (Row .i64 bw lo hi w' v' (dlm (rndM mode.toNat s (val zs).toNat (x - (low - 1)))) ∨ Row .i64 true w.heap.size w'.heap.size w' v' (dlm (rndM mode.toNat s (val zs).toNat (x - (low - 1))))) ∧ Kept 0 0 w w' := by
  have r0 := r
  obtain ⟨MM, hMM⟩ : ∃ y, rndM mode.toNat s (val zs).toNat (x - (low - 1)) = y := ⟨_, rfl⟩
  obtain ⟨XX, hXX⟩ : ∃ y, rndX (scN (val zs).toNat (x - (low - 1))) (scL (val zs).toNat (x - (low - 1))) = y := ⟨_, rfl⟩
  rw [hMM, hXX]
  have HMM := hide hMM
  have HXX := hide hXX
  clear hMM hXX
  have k0 : Kept 0 0 w ((w.alloc (.cells #[.bool s, v, .int .i64 x] 52)).alloc (.cells #[.bool false, .slice none 0 0, .int .i64 0] 52)) := (((Kept.refl 0 0 w).alloc (.cells #[.bool s, v, .int .i64 x] 52)).alloc (.cells #[.bool false, .slice none 0 0, .int .i64 0] 52))
  have p0 : ((w.alloc (.cells #[.bool s, v, .int .i64 x] 52)).alloc (.cells #[.bool false, .slice none 0 0, .int .i64 0] 52)).cell? ⟨w.heap.size, 0, none⟩ = some (.bool s) := old_cell _ (new_cell2 _ _ _ _ _ _ (by simp) rfl)
  have p1 : ((w.alloc (.cells #[.bool s, v, .int .i64 x] 52)).alloc (.cells #[.bool false, .slice none 0 0, .int .i64 0] 52)).cell? ⟨w.heap.size, 1, none⟩ = some (v) := old_cell _ (new_cell2 _ _ _ _ _ _ (by simp) rfl)
  have p2 : ((w.alloc (.cells #[.bool s, v, .int .i64 x] 52)).alloc (.cells #[.bool false, .slice none 0 0, .int .i64 0] 52)).cell? ⟨w.heap.size, 2, none⟩ = some (.int .i64 x) := old_cell _ (new_cell2 _ _ _ _ _ _ (by simp) rfl)
  have q0 : ((w.alloc (.cells #[.bool s, v, .int .i64 x] 52)).alloc (.cells #[.bool false, .slice none 0 0, .int .i64 0] 52)).cell? ⟨w.heap.size + 1, 0, none⟩ = some (.bool false) := new_cell2 _ _ _ _ _ _ (by simp) rfl
  have qf0 : ((w.alloc (.cells #[.bool s, v, .int .i64 x] 52)).alloc (.cells #[.bool false, .slice none 0 0, .int .i64 0] 52)).frozen? ⟨w.heap.size + 1, 0, none⟩ = false := new_loose2 _ _ _ _ _ (by simp)
  have q1 : ((w.alloc (.cells #[.bool s, v, .int .i64 x] 52)).alloc (.cells #[.bool false, .slice none 0 0, .int .i64 0] 52)).cell? ⟨w.heap.size + 1, 1, none⟩ = some (.slice none 0 0) := new_cell2 _ _ _ _ _ _ (by simp) rfl
  have qf1 : ((w.alloc (.cells #[.bool s, v, .int .i64 x] 52)).alloc (.cells #[.bool false, .slice none 0 0, .int .i64 0] 52)).frozen? ⟨w.heap.size + 1, 1, none⟩ = false := new_loose2 _ _ _ _ _ (by simp)
  have q2 : ((w.alloc (.cells #[.bool s, v, .int .i64 x] 52)).alloc (.cells #[.bool false, .slice none 0 0, .int .i64 0] 52)).cell? ⟨w.heap.size + 1, 2, none⟩ = some (.int .i64 0) := new_cell2 _ _ _ _ _ _ (by simp) rfl
  have qf2 : ((w.alloc (.cells #[.bool s, v, .int .i64 x] 52)).alloc (.cells #[.bool false, .slice none 0 0, .int .i64 0] 52)).frozen? ⟨w.heap.size + 1, 2, none⟩ = false := new_loose2 _ _ _ _ _ (by simp)
  replace r := r.kept k0 (by omega)
  have s0 : ((w.alloc (.cells #[.bool s, v, .int .i64 x] 52)).alloc (.cells #[.bool false, .slice none 0 0, .int .i64 0] 52)).heap.size = w.heap.size + 2 := by simp
  obtain ⟨a, c, hv⟩ := Row.form' r
  subst hv
  have K := hide (k0)
  clear k0
  have S0 := hide s0
  clear s0
  go_enter Tryz.func163, Tryz.ntmps163
  by_cases h0 : zs = []
  · have hb0 : ((zs.length : Int) == 0) = true := by rw [h0]; rfl
    obtain ⟨g1, g2, g3, g4⟩ := rnd_same hn ho hz (.inl h0) (low := low) mode.toNat
    rw [unhide HMM] at g2 g3 g4
    rw [unhide HXX] at g1
    have FF : Hid (XX = true ∧ wsg MM = s ∧ dlm MM = zs ∧ dex MM low = x) := ⟨g1, g2, g3, g4⟩
    clear g1 g2 g3 g4 hn ho hz HMM HXX
    clear h0
    have KF := hide (((Kept.refl 0 0 w).alloc (.cells #[.bool s, .slice a zs.length c, .int .i64 x] 52)).alloc (.cells #[.bool s, .slice a zs.length c, .int .i64 x] 52))
    have RF := hide (r0.kept (unhide KF) (by omega))
    clear r
    go_wp2_with fail
    exact bodyPost_ret (v := .tuple #[.agg #[.bool s, .slice a zs.length c, .int .i64 x], .bool true]) (by simp [results, Tryz.results163, go_sem, q0, q1, q2]) rfl ⟨_, by rw [(unhide FF).1, (unhide FF).2.1, (unhide FF).2.2.2], by rw [(unhide FF).2.2.1]; exact .inl (unhide RF), unhide KF⟩
  have hlen : 0 < zs.length := List.length_pos_iff.2 h0
  have hb0 : ((zs.length : Int) == 0) = false := beq_eq_false_iff_ne.2 (by omega)
  by_cases hle : low ≤ x
  · obtain ⟨g1, g2, g3, g4⟩ := rnd_same hn ho hz (.inr hle) (low := low) mode.toNat
    rw [unhide HMM] at g2 g3 g4
    rw [unhide HXX] at g1
    have FF : Hid (XX = true ∧ wsg MM = s ∧ dlm MM = zs ∧ dex MM low = x) := ⟨g1, g2, g3, g4⟩
    clear g1 g2 g3 g4 hn ho hz HMM HXX
    have KF := hide (((Kept.refl 0 0 w).alloc (.cells #[.bool s, .slice a zs.length c, .int .i64 x] 52)).alloc (.cells #[.bool s, .slice a zs.length c, .int .i64 x] 52))
    have RF := hide (r0.kept (unhide KF) (by omega))
    clear r
    go_wp2_with fail
    exact bodyPost_ret (v := .tuple #[.agg #[.bool s, .slice a zs.length c, .int .i64 x], .bool true]) (by simp [results, Tryz.results163, go_sem, q0, q1, q2]) rfl ⟨_, by rw [(unhide FF).1, (unhide FF).2.1, (unhide FF).2.2.2], by rw [(unhide FF).2.2.1]; exact .inl (unhide RF), unhide KF⟩
  obtain ⟨KK, hKK⟩ : ∃ K : Nat, low - x = K := ⟨(low - x).toNat, by omega⟩
  have hK0 : 0 < KK := by omega
  have hKb : KK ≤ 400000 := by omega
  have hK63 : (KK : Int) ≤ 9223372036854775807 := by omega
  have hwk : IntKind.i64.wrap (low - x) = (KK : Int) := by rw [w64 _ (by omega) (by omega)]; exact hKK
  have hv0 := val_nonneg hn.1.1
  have hodd : (val zs).toNat % 2 = 1 := by have := ho h0; omega
  have ek : x - (low - 1) = 1 - (KK : Int) := by omega
  rw [ek] at HMM HXX
  obtain ⟨f1, f2⟩ := rnd_low hK0 hodd mode.toNat s
  rw [f1] at HXX
  have hXX := unhide HXX
  subst hXX
  have hMM : wval s (limbs (rndN mode.toNat s (scN (val zs).toNat (1 - (KK : Int))) (scL (val zs).toNat (1 - (KK : Int))))) = MM := unhide HMM
  rw [f2] at hMM
  obtain ⟨UP, hUP⟩ : ∃ y, upsB mode.toNat s (decide ((val zs).toNat / 2 ^ KK % 2 = 1)) (decide ((val zs).toNat / 2 ^ (KK - 1) % 2 = 1)) (decide ((val zs).toNat % 2 ^ (KK - 1) ≠ 0)) = y := ⟨_, rfl⟩
  rw [hUP] at hMM
  have HM2 := hide hMM
  have HUP := hide hUP
  clear f1 f2 hMM HMM HXX hUP hodd ek hKK
  go_wp2_with fail
  generalize ((w.alloc (.cells #[.bool s, .slice a zs.length c, .int .i64 x] 52)).alloc (.cells #[.bool false, .slice none 0 0, .int .i64 0] 52)) = W at *
  refine (shr_spec _ r hn.1.1 (by omega) KK hK63).mono ?_
  rintro e w1 ⟨v3, rfl, r3, k1⟩
  replace r := r.kept k1 (.inr (.inr (Nat.le_refl 0)))
  replace qf0 := k1.loose0 (World.block_lt_of_cell? _ _ q0) qf0
  replace qf1 := k1.loose0 (World.block_lt_of_cell? _ _ q1) qf1
  replace qf2 := k1.loose0 (World.block_lt_of_cell? _ _ q2) qf2
  replace p0 := k1.cell0 p0
  replace p1 := k1.cell0 p1
  replace p2 := k1.cell0 p2
  replace q0 := k1.cell0 q0
  replace q1 := k1.cell0 q1
  replace q2 := k1.cell0 q2
  replace K := hide ((unhide K).trans k1)
  have z2 := k1.size
  clear k1
  obtain ⟨QQ, hQQ⟩ : ∃ y, limbs ((val zs).toNat / 2 ^ KK) = y := ⟨_, rfl⟩
  rw [hQQ] at r3
  have HQ := hide hQQ
  clear hQQ
  obtain ⟨a3, c3, hv⟩ := Row.form' r3
  subst hv
  have kn := (Kept.refl 0 0 w1).alloc (.cells #[.slice a3 QQ.length c3] 48)
  have y0 : (w1.alloc (.cells #[.slice a3 QQ.length c3] 48)).cell? ⟨w1.heap.size, 0, none⟩ = some (.slice a3 QQ.length c3) := new_cell2 _ _ _ _ _ _ rfl rfl
  have yf0 : (w1.alloc (.cells #[.slice a3 QQ.length c3] 48)).frozen? ⟨w1.heap.size, 0, none⟩ = false := new_loose2 _ _ _ _ _ rfl
  replace r := r.kept kn (.inr (.inr (Nat.le_refl 0)))
  replace r3 := r3.kept kn (.inr (.inr (Nat.le_refl 0)))
  replace qf0 := kn.loose0 (World.block_lt_of_cell? _ _ q0) qf0
  replace qf1 := kn.loose0 (World.block_lt_of_cell? _ _ q1) qf1
  replace qf2 := kn.loose0 (World.block_lt_of_cell? _ _ q2) qf2
  replace p0 := kn.cell0 p0
  replace p1 := kn.cell0 p1
  replace p2 := kn.cell0 p2
  replace q0 := kn.cell0 q0
  replace q1 := kn.cell0 q1
  replace q2 := kn.cell0 q2
  replace K := hide ((unhide K).trans kn)
  have z3 := kn.size
  clear kn
  have zy : w1.heap.size < (w1.alloc (.cells #[.slice a3 QQ.length c3] 48)).heap.size := by simp
  go_wp2_with fail
  generalize w1.alloc (.cells #[.slice a3 QQ.length c3] 48) = W5 at *
  have hup := ups_spec s _ r hn.1 h0 (by omega) KK hK0 (Nat.le_trans hKb (by decide)) mode hm0 hm4
  rw [unhide HUP] at hup
  refine (hup).mono ?_
  rintro e w4 ⟨rfl, k4⟩
  replace r := r.kept k4 (.inr (.inr (Nat.le_refl 0)))
  replace r3 := r3.kept k4 (.inr (.inr (Nat.le_refl 0)))
  replace qf0 := k4.loose0 (World.block_lt_of_cell? _ _ q0) qf0
  replace qf1 := k4.loose0 (World.block_lt_of_cell? _ _ q1) qf1
  replace qf2 := k4.loose0 (World.block_lt_of_cell? _ _ q2) qf2
  replace yf0 := k4.loose0 (World.block_lt_of_cell? _ _ y0) yf0
  replace p0 := k4.cell0 p0
  replace p1 := k4.cell0 p1
  replace p2 := k4.cell0 p2
  replace q0 := k4.cell0 q0
  replace q1 := k4.cell0 q1
  replace q2 := k4.cell0 q2
  replace y0 := k4.cell0 y0
  replace K := hide ((unhide K).trans k4)
  have z5 := k4.size
  clear k4
  clear hup HUP
  clear r
  have lQ : Lim QQ := by rw [← unhide HQ]; exact limbs_lim _
  have nQ : QQ.length ≤ zs.length := by have hq := limbs_len_le (Nat.div_le_self (val zs).toNat (2 ^ KK)); rw [← nrm_limbs hn.1] at hq; rw [← unhide HQ]; exact hq
  cases UP
  · have N7 : Hid ((wlm MM).length ≤ 50000) := by show _ ≤ _; rw [← unhide HM2, wlm_rnd]; simp only [Bool.false_eq_true, if_false, Nat.add_zero]; rw [unhide HQ]; omega
    go_wp2_with fail
    have hnx : Nrm QQ := by rw [← unhide HQ]; exact limbs_nrm _
    refine (make_any s _ r3 hnx (by omega)).mono ?_
    rintro e w6 ⟨v7, rfl, r7, k6⟩
    replace r3 := r3.kept k6 (.inr (.inr (Nat.le_refl 0)))
    replace qf0 := k6.loose0 (World.block_lt_of_cell? _ _ q0) qf0
    replace qf1 := k6.loose0 (World.block_lt_of_cell? _ _ q1) qf1
    replace qf2 := k6.loose0 (World.block_lt_of_cell? _ _ q2) qf2
    replace yf0 := k6.loose0 (World.block_lt_of_cell? _ _ y0) yf0
    replace p0 := k6.cell0 p0
    replace p1 := k6.cell0 p1
    replace p2 := k6.cell0 p2
    replace q0 := k6.cell0 q0
    replace q1 := k6.cell0 q1
    replace q2 := k6.cell0 q2
    replace y0 := k6.cell0 y0
    replace K := hide ((unhide K).trans k6)
    have z7 := k6.size
    clear k6
    obtain ⟨M7, hM7⟩ : ∃ y, wval s QQ = y := ⟨_, rfl⟩
    rw [hM7] at r7
    rw [hM7]
    have e7 : M7 = MM := by rw [← hM7, ← unhide HM2]; rw [← unhide HQ]; simp
    subst e7
    clear hM7 HM2
    have w7 : WN (wsg M7) (wlm M7) := wn_int M7
    have n7 : (wlm M7).length ≤ 50000 := unhide N7
    obtain ⟨a7, c7, hv⟩ := Row.form' r7
    subst hv
    go_wp2_with fail
    refine (make4_spec (wsg M7) low M7 (wval_int M7) (by omega) (by omega) _ r7 w7 n7).mono ?_
    rintro e w8 ⟨v8, rfl, r8, k8⟩
    replace r3 := r3.kept k8 (.inr (.inr (Nat.le_refl 0)))
    replace r7 := r7.kept k8 (.inr (.inr (Nat.le_refl 0)))
    replace qf0 := k8.loose0 (World.block_lt_of_cell? _ _ q0) qf0
    replace qf1 := k8.loose0 (World.block_lt_of_cell? _ _ q1) qf1
    replace qf2 := k8.loose0 (World.block_lt_of_cell? _ _ q2) qf2
    replace yf0 := k8.loose0 (World.block_lt_of_cell? _ _ y0) yf0
    replace p0 := k8.cell0 p0
    replace p1 := k8.cell0 p1
    replace p2 := k8.cell0 p2
    replace q0 := k8.cell0 q0
    replace q1 := k8.cell0 q1
    replace q2 := k8.cell0 q2
    replace y0 := k8.cell0 y0
    replace K := hide ((unhide K).trans k8)
    have z9 := k8.size
    clear k8
    obtain ⟨G2, hG2⟩ : ∃ y, dlm M7 = y := ⟨_, rfl⟩
    rw [hG2] at r8
    have HG2 := hide hG2
    clear hG2
    obtain ⟨a8, c8, hv⟩ := Row.form' r8
    subst hv
    obtain ⟨G1, hG1⟩ : ∃ y, wsg M7 = y := ⟨_, rfl⟩
    obtain ⟨G3, hG3⟩ : ∃ y, dex M7 low = y := ⟨_, rfl⟩
    rw [hG1, hG3]
    have HG1 := hide hG1
    have HG3 := hide hG3
    clear hG1 hG3
    have KF := hide ((((unhide K).setNew (p := ⟨w.heap.size + 1, 0, none⟩) (by simp) (.bool G1)).setNew (p := ⟨w.heap.size + 1, 1, none⟩) (by simp) (.slice a8 G2.length c8)).setNew (p := ⟨w.heap.size + 1, 2, none⟩) (by simp) (.int .i64 G3))
    have RF := hide ((((r8.set_other (p := ⟨w.heap.size + 1, 0, none⟩) (.inl (by have := unhide S0; dsimp only; omega)) (.bool G1)).set_other (p := ⟨w.heap.size + 1, 1, none⟩) (.inl (by have := unhide S0; dsimp only; omega)) (.slice a8 G2.length c8)).set_other (p := ⟨w.heap.size + 1, 2, none⟩) (.inl (by have := unhide S0; dsimp only; omega)) (.int .i64 G3)).tight.wider (lo' := w.heap.size) (by have := unhide S0; omega) (Nat.le_refl _))
    clear r3 r7 r8 K
    go_wp2_with fail
    exact bodyPost_ret (v := .tuple #[.agg #[.bool G1, .slice a8 G2.length c8, .int .i64 G3], .bool false]) (by simp [results, Tryz.results163, go_sem, q0, q1, q2]) rfl ⟨_, by rw [unhide HG1, unhide HG3], by rw [unhide HG2]; exact .inr (unhide RF), unhide KF⟩
  · have N7 : Hid ((wlm MM).length ≤ 50000) := by
      show _ ≤ _
      rw [← unhide HM2, wlm_rnd]
      simp only [if_true]
      refine Nat.le_trans (limbs_len_le (n := (val zs).toNat + 1) (Nat.succ_le_succ (Nat.div_le_self _ _))) ?_
      have := limbs_succ_len zs hn.1
      omega
    go_upto_region 6 with fail
    obtain ⟨SQ, hSQ⟩ : ∃ y, limbs ((val zs).toNat / 2 ^ KK + 1) = y := ⟨_, rfl⟩
    have HS := hide hSQ
    clear hSQ
    have HNS : Hid (Nrm SQ) := by show Nrm _; rw [← unhide HS]; exact limbs_nrm _
    have eS : (val QQ + val (limbs (1 : Int).toNat)).toNat = (val zs).toNat / 2 ^ KK + 1 := by rw [← unhide HQ, limbs_val, limbs_val]; generalize (val zs).toNat / 2 ^ KK = n; omega
    have kd := (Kept.refl 0 0 w4).drew
    replace r3 := r3.kept kd (.inr (.inr (Nat.le_refl 0)))
    replace qf0 := kd.loose0 (World.block_lt_of_cell? _ _ q0) qf0
    replace qf1 := kd.loose0 (World.block_lt_of_cell? _ _ q1) qf1
    replace qf2 := kd.loose0 (World.block_lt_of_cell? _ _ q2) qf2
    replace yf0 := kd.loose0 (World.block_lt_of_cell? _ _ y0) yf0
    replace p0 := kd.cell0 p0
    replace p1 := kd.cell0 p1
    replace p2 := kd.cell0 p2
    replace q0 := kd.cell0 q0
    replace q1 := kd.cell0 q1
    replace q2 := kd.cell0 q2
    replace y0 := kd.cell0 y0
    replace K := hide ((unhide K).trans kd)
    have z6 := kd.size
    clear kd
    refine wp_region_held_drew (S := (fun w' => True)) (by kernel_rfl) ?_ (fun hHeld => ?_)
    · exact trivial
    generalize w4.drew = wd7 at *
    refine wpAnyH_ready (rs := [0, 1]) (by kernel_rfl) (by simp) ?_
    refine AllReadyH.cons rfl (fun KK hK => ?_) (AllReadyH.cons rfl (fun KK hK => ?_) AllReadyH.nil)
    · simp only [List.getElem_toArray, List.getElem_cons_succ, List.getElem_cons_zero]
      rw [if_pos (by rfl)]
      go_simp
      clear hHeld
      refine hK.out _ _ ?_ (fun hHeld => ?_)
      · exact trivial
      clear hK KK
      try simp only [Act.put, List.getElem_toArray, List.getElem_cons_succ, List.getElem_cons_zero, List.setIfInBounds_toArray, List.set_cons_zero, List.set_cons_succ]
      refine wpAnyH_ready (rs := [1]) (by kernel_rfl) (by simp) ?_
      refine AllReadyH.cons rfl (fun KK hK => ?_) AllReadyH.nil
      simp only [List.getElem_toArray, List.getElem_cons_succ, List.getElem_cons_zero]
      rw [if_pos (by rfl)]
      refine wps1 162 (.const (.int .i64 1)) _ rfl in_l2of_r (.int .i64 1) rfl (of_spec _ 1 (by omega)) ?_
      rintro e w8 ⟨v4, rfl, r4, k8⟩
      refine ⟨_, rfl, ?_⟩
      replace r3 := r3.kept k8 (.inr (.inr (Nat.le_refl 0)))
      replace qf0 := k8.loose0 (World.block_lt_of_cell? _ _ q0) qf0
      replace qf1 := k8.loose0 (World.block_lt_of_cell? _ _ q1) qf1
      replace qf2 := k8.loose0 (World.block_lt_of_cell? _ _ q2) qf2
      replace yf0 := k8.loose0 (World.block_lt_of_cell? _ _ y0) yf0
      replace p0 := k8.cell0 p0
      replace p1 := k8.cell0 p1
      replace p2 := k8.cell0 p2
      replace q0 := k8.cell0 q0
      replace q1 := k8.cell0 q1
      replace q2 := k8.cell0 q2
      replace y0 := k8.cell0 y0
      replace K := hide ((unhide K).trans k8)
      have z9 := k8.size
      clear k8
      obtain ⟨a4, c4, hv⟩ := Row.form' r4
      subst hv
      clear hHeld
      refine hK.out _ _ ?_ (fun hHeld => ?_)
      · exact trivial
      clear hK KK
      try simp only [Act.put, List.getElem_toArray, List.getElem_cons_succ, List.getElem_cons_zero, List.setIfInBounds_toArray, List.set_cons_zero, List.set_cons_succ]
      refine wpAnyH_ready (rs := [2]) (by kernel_rfl) (by simp) ?_
      refine AllReadyH.cons rfl (fun KK hK => ?_) AllReadyH.nil
      simp only [List.getElem_toArray, List.getElem_cons_succ, List.getElem_cons_zero]
      rw [if_pos (by rfl)]
      refine wps2 161 (.tmp 41) (.tmp 42) _ rfl in_l2add_r (.agg #[.slice a3 QQ.length c3]) (.agg #[.slice a4 (limbs (1 : Int).toNat).length c4]) rfl rfl (add_spec _ r3 r4 lQ (limbs_lim _) (by omega) (by decide)) ?_
      rintro e w10 ⟨v5, rfl, r5, k10⟩
      refine ⟨_, rfl, ?_⟩
      replace r3 := r3.kept k10 (.inr (.inr (Nat.le_refl 0)))
      replace r4 := r4.kept k10 (.inr (.inr (Nat.le_refl 0)))
      replace qf0 := k10.loose0 (World.block_lt_of_cell? _ _ q0) qf0
      replace qf1 := k10.loose0 (World.block_lt_of_cell? _ _ q1) qf1
      replace qf2 := k10.loose0 (World.block_lt_of_cell? _ _ q2) qf2
      replace yf0 := k10.loose0 (World.block_lt_of_cell? _ _ y0) yf0
      replace p0 := k10.cell0 p0
      replace p1 := k10.cell0 p1
      replace p2 := k10.cell0 p2
      replace q0 := k10.cell0 q0
      replace q1 := k10.cell0 q1
      replace q2 := k10.cell0 q2
      replace y0 := k10.cell0 y0
      replace K := hide ((unhide K).trans k10)
      have z11 := k10.size
      clear k10
      rw [eS, unhide HS] at r5
      clear hHeld
      refine hK.out _ _ ?_ (fun hHeld => ?_)
      · exact trivial
      clear hK KK
      try simp only [Act.put, List.getElem_toArray, List.getElem_cons_succ, List.getElem_cons_zero, List.setIfInBounds_toArray, List.set_cons_zero, List.set_cons_succ]
      obtain ⟨a5, c5, hv⟩ := Row.form' r5
      subst hv
      refine wpAnyH_ready (rs := [3]) (by kernel_rfl) (by simp) ?_
      refine AllReadyH.cons rfl (fun KK hK => ?_) AllReadyH.nil
      simp only [List.getElem_toArray, List.getElem_cons_succ, List.getElem_cons_zero]
      rw [if_pos (by rfl)]
      go_simp
      clear hHeld
      refine hK.out _ _ ?_ (fun hHeld => ?_)
      · trivial
      clear hK KK
      try simp only [Act.put, List.getElem_toArray, List.getElem_cons_succ, List.getElem_cons_zero, List.setIfInBounds_toArray, List.set_cons_zero, List.set_cons_succ]
      refine wpAnyH_done (by kernel_rfl) ?_ _
      clear hHeld
      try go_simp
      have sS0 := unhide S0
      replace r3 := r3.set_other (p := ⟨w1.heap.size, 0, none⟩) (by dsimp only; omega) (.slice a5 SQ.length c5)
      replace r4 := r4.set_other (p := ⟨w1.heap.size, 0, none⟩) (by dsimp only; omega) (.slice a5 SQ.length c5)
      replace r5 := r5.set_other (p := ⟨w1.heap.size, 0, none⟩) (by dsimp only; omega) (.slice a5 SQ.length c5)
      replace p0 := cell_aside (.slice a5 SQ.length c5) (r := ⟨w1.heap.size, 0, none⟩) (by dsimp only; omega) p0
      replace p1 := cell_aside (.slice a5 SQ.length c5) (r := ⟨w1.heap.size, 0, none⟩) (by dsimp only; omega) p1
      replace p2 := cell_aside (.slice a5 SQ.length c5) (r := ⟨w1.heap.size, 0, none⟩) (by dsimp only; omega) p2
      replace q0 := cell_aside (.slice a5 SQ.length c5) (r := ⟨w1.heap.size, 0, none⟩) (by dsimp only; omega) q0
      replace q1 := cell_aside (.slice a5 SQ.length c5) (r := ⟨w1.heap.size, 0, none⟩) (by dsimp only; omega) q1
      replace q2 := cell_aside (.slice a5 SQ.length c5) (r := ⟨w1.heap.size, 0, none⟩) (by dsimp only; omega) q2
      replace qf0 : (w10.setCell ⟨w1.heap.size, 0, none⟩ (.slice a5 SQ.length c5)).frozen? _ = false := (frozen_set _ _ _ _ _).trans qf0
      replace qf1 : (w10.setCell ⟨w1.heap.size, 0, none⟩ (.slice a5 SQ.length c5)).frozen? _ = false := (frozen_set _ _ _ _ _).trans qf1
      replace qf2 : (w10.setCell ⟨w1.heap.size, 0, none⟩ (.slice a5 SQ.length c5)).frozen? _ = false := (frozen_set _ _ _ _ _).trans qf2
      replace yf0 : (w10.setCell ⟨w1.heap.size, 0, none⟩ (.slice a5 SQ.length c5)).frozen? _ = false := (frozen_set _ _ _ _ _).trans yf0
      replace y0 : (w10.setCell ⟨w1.heap.size, 0, none⟩ (.slice a5 SQ.length c5)).cell? ⟨w1.heap.size, 0, none⟩ = some (.slice a5 SQ.length c5) := cell_on _ _ _ _ _ y0
      replace K := hide ((unhide K).setNew (p := ⟨w1.heap.size, 0, none⟩) (by dsimp only; omega) (.slice a5 SQ.length c5))
      have zs12 : (w10.setCell ⟨w1.heap.size, 0, none⟩ (.slice a5 SQ.length c5)).heap.size = w10.heap.size := by simp [World.setCell]
      clear sS0
      generalize w10.setCell ⟨w1.heap.size, 0, none⟩ (.slice a5 SQ.length c5) = ws12 at *
      have hlS : SQ.length ≤ 1000000 := by have := unhide N7; rw [← unhide HS]; exact Nat.le_trans (limbs_len_le (n := (val zs).toNat + 1) (Nat.succ_le_succ (Nat.div_le_self _ _))) (by have := limbs_succ_len zs hn.1; omega)
      go_wp2_with fail
      have hnx : Nrm SQ := unhide HNS
      refine (make_any s _ r5 hnx (by omega)).mono ?_
      rintro e w13 ⟨v7, rfl, r7, k13⟩
      replace r3 := r3.kept k13 (.inr (.inr (Nat.le_refl 0)))
      replace r4 := r4.kept k13 (.inr (.inr (Nat.le_refl 0)))
      replace r5 := r5.kept k13 (.inr (.inr (Nat.le_refl 0)))
      replace qf0 := k13.loose0 (World.block_lt_of_cell? _ _ q0) qf0
      replace qf1 := k13.loose0 (World.block_lt_of_cell? _ _ q1) qf1
      replace qf2 := k13.loose0 (World.block_lt_of_cell? _ _ q2) qf2
      replace yf0 := k13.loose0 (World.block_lt_of_cell? _ _ y0) yf0
      replace p0 := k13.cell0 p0
      replace p1 := k13.cell0 p1
      replace p2 := k13.cell0 p2
      replace q0 := k13.cell0 q0
      replace q1 := k13.cell0 q1
      replace q2 := k13.cell0 q2
      replace y0 := k13.cell0 y0
      replace K := hide ((unhide K).trans k13)
      have z14 := k13.size
      clear k13
      obtain ⟨M7, hM7⟩ : ∃ y, wval s SQ = y := ⟨_, rfl⟩
      rw [hM7] at r7
      rw [hM7]
      have e7 : M7 = MM := by rw [← hM7, ← unhide HM2]; rw [← unhide HS]; simp
      subst e7
      clear hM7 HM2
      have w7 : WN (wsg M7) (wlm M7) := wn_int M7
      have n7 : (wlm M7).length ≤ 50000 := unhide N7
      obtain ⟨a7, c7, hv⟩ := Row.form' r7
      subst hv
      go_wp2_with fail
      refine (make4_spec (wsg M7) low M7 (wval_int M7) (by omega) (by omega) _ r7 w7 n7).mono ?_
      rintro e w15 ⟨v8, rfl, r8, k15⟩
      replace r3 := r3.kept k15 (.inr (.inr (Nat.le_refl 0)))
      replace r4 := r4.kept k15 (.inr (.inr (Nat.le_refl 0)))
      replace r5 := r5.kept k15 (.inr (.inr (Nat.le_refl 0)))
      replace r7 := r7.kept k15 (.inr (.inr (Nat.le_refl 0)))
      replace qf0 := k15.loose0 (World.block_lt_of_cell? _ _ q0) qf0
      replace qf1 := k15.loose0 (World.block_lt_of_cell? _ _ q1) qf1
      replace qf2 := k15.loose0 (World.block_lt_of_cell? _ _ q2) qf2
      replace yf0 := k15.loose0 (World.block_lt_of_cell? _ _ y0) yf0
      replace p0 := k15.cell0 p0
      replace p1 := k15.cell0 p1
      replace p2 := k15.cell0 p2
      replace q0 := k15.cell0 q0
      replace q1 := k15.cell0 q1
      replace q2 := k15.cell0 q2
      replace y0 := k15.cell0 y0
      replace K := hide ((unhide K).trans k15)
      have z16 := k15.size
      clear k15
      obtain ⟨G2, hG2⟩ : ∃ y, dlm M7 = y := ⟨_, rfl⟩
      rw [hG2] at r8
      have HG2 := hide hG2
      clear hG2
      obtain ⟨a8, c8, hv⟩ := Row.form' r8
      subst hv
      obtain ⟨G1, hG1⟩ : ∃ y, wsg M7 = y := ⟨_, rfl⟩
      obtain ⟨G3, hG3⟩ : ∃ y, dex M7 low = y := ⟨_, rfl⟩
      rw [hG1, hG3]
      have HG1 := hide hG1
      have HG3 := hide hG3
      clear hG1 hG3
      have KF := hide ((((unhide K).setNew (p := ⟨w.heap.size + 1, 0, none⟩) (by simp) (.bool G1)).setNew (p := ⟨w.heap.size + 1, 1, none⟩) (by simp) (.slice a8 G2.length c8)).setNew (p := ⟨w.heap.size + 1, 2, none⟩) (by simp) (.int .i64 G3))
      have RF := hide ((((r8.set_other (p := ⟨w.heap.size + 1, 0, none⟩) (.inl (by have := unhide S0; dsimp only; omega)) (.bool G1)).set_other (p := ⟨w.heap.size + 1, 1, none⟩) (.inl (by have := unhide S0; dsimp only; omega)) (.slice a8 G2.length c8)).set_other (p := ⟨w.heap.size + 1, 2, none⟩) (.inl (by have := unhide S0; dsimp only; omega)) (.int .i64 G3)).tight.wider (lo' := w.heap.size) (by have := unhide S0; omega) (Nat.le_refl _))
      clear r3 r4 r5 r7 r8 K
      go_wp2_with fail
      exact bodyPost_ret (v := .tuple #[.agg #[.bool G1, .slice a8 G2.length c8, .int .i64 G3], .bool false]) (by simp [results, Tryz.results163, go_sem, q0, q1, q2]) rfl ⟨_, by rw [unhide HG1, unhide HG3], by rw [unhide HG2]; exact .inr (unhide RF), unhide KF⟩
    · simp only [List.getElem_toArray, List.getElem_cons_succ, List.getElem_cons_zero]
      rw [if_pos (by rfl)]
      refine wps1 162 (.const (.int .i64 1)) _ rfl in_l2of_r (.int .i64 1) rfl (of_spec _ 1 (by omega)) ?_
      rintro e w8 ⟨v4, rfl, r4, k8⟩
      refine ⟨_, rfl, ?_⟩
      replace r3 := r3.kept k8 (.inr (.inr (Nat.le_refl 0)))
      replace qf0 := k8.loose0 (World.block_lt_of_cell? _ _ q0) qf0
      replace qf1 := k8.loose0 (World.block_lt_of_cell? _ _ q1) qf1
      replace qf2 := k8.loose0 (World.block_lt_of_cell? _ _ q2) qf2
      replace yf0 := k8.loose0 (World.block_lt_of_cell? _ _ y0) yf0
      replace p0 := k8.cell0 p0
      replace p1 := k8.cell0 p1
      replace p2 := k8.cell0 p2
      replace q0 := k8.cell0 q0
      replace q1 := k8.cell0 q1
      replace q2 := k8.cell0 q2
      replace y0 := k8.cell0 y0
      replace K := hide ((unhide K).trans k8)
      have z9 := k8.size
      clear k8
      obtain ⟨a4, c4, hv⟩ := Row.form' r4
      subst hv
      clear hHeld
      refine hK.out _ _ ?_ (fun hHeld => ?_)
      · exact trivial
      clear hK KK
      try simp only [Act.put, List.getElem_toArray, List.getElem_cons_succ, List.getElem_cons_zero, List.setIfInBounds_toArray, List.set_cons_zero, List.set_cons_succ]
      refine wpAnyH_ready (rs := [0]) (by kernel_rfl) (by simp) ?_
      refine AllReadyH.cons rfl (fun KK hK => ?_) AllReadyH.nil
      simp only [List.getElem_toArray, List.getElem_cons_succ, List.getElem_cons_zero]
      rw [if_pos (by rfl)]
      go_simp
      clear hHeld
      refine hK.out _ _ ?_ (fun hHeld => ?_)
      · exact trivial
      clear hK KK
      try simp only [Act.put, List.getElem_toArray, List.getElem_cons_succ, List.getElem_cons_zero, List.setIfInBounds_toArray, List.set_cons_zero, List.set_cons_succ]
      refine wpAnyH_ready (rs := [2]) (by kernel_rfl) (by simp) ?_
      refine AllReadyH.cons rfl (fun KK hK => ?_) AllReadyH.nil
      simp only [List.getElem_toArray, List.getElem_cons_succ, List.getElem_cons_zero]
      rw [if_pos (by rfl)]
      refine wps2 161 (.tmp 41) (.tmp 42) _ rfl in_l2add_r (.agg #[.slice a3 QQ.length c3]) (.agg #[.slice a4 (limbs (1 : Int).toNat).length c4]) rfl rfl (add_spec _ r3 r4 lQ (limbs_lim _) (by omega) (by decide)) ?_
      rintro e w10 ⟨v5, rfl, r5, k10⟩
      refine ⟨_, rfl, ?_⟩
      replace r3 := r3.kept k10 (.inr (.inr (Nat.le_refl 0)))
      replace r4 := r4.kept k10 (.inr (.inr (Nat.le_refl 0)))
      replace qf0 := k10.loose0 (World.block_lt_of_cell? _ _ q0) qf0
      replace qf1 := k10.loose0 (World.block_lt_of_cell? _ _ q1) qf1
      replace qf2 := k10.loose0 (World.block_lt_of_cell? _ _ q2) qf2
      replace yf0 := k10.loose0 (World.block_lt_of_cell? _ _ y0) yf0
      replace p0 := k10.cell0 p0
      replace p1 := k10.cell0 p1
      replace p2 := k10.cell0 p2
      replace q0 := k10.cell0 q0
      replace q1 := k10.cell0 q1
      replace q2 := k10.cell0 q2
      replace y0 := k10.cell0 y0
      replace K := hide ((unhide K).trans k10)
      have z11 := k10.size
      clear k10
      rw [eS, unhide HS] at r5
      clear hHeld
      refine hK.out _ _ ?_ (fun hHeld => ?_)
      · exact trivial
      clear hK KK
      try simp only [Act.put, List.getElem_toArray, List.getElem_cons_succ, List.getElem_cons_zero, List.setIfInBounds_toArray, List.set_cons_zero, List.set_cons_succ]
      obtain ⟨a5, c5, hv⟩ := Row.form' r5
      subst hv
      refine wpAnyH_ready (rs := [3]) (by kernel_rfl) (by simp) ?_
      refine AllReadyH.cons rfl (fun KK hK => ?_) AllReadyH.nil
      simp only [List.getElem_toArray, List.getElem_cons_succ, List.getElem_cons_zero]
      rw [if_pos (by rfl)]
      go_simp
      clear hHeld
      refine hK.out _ _ ?_ (fun hHeld => ?_)
      · trivial
      clear hK KK
      try simp only [Act.put, List.getElem_toArray, List.getElem_cons_succ, List.getElem_cons_zero, List.setIfInBounds_toArray, List.set_cons_zero, List.set_cons_succ]
      refine wpAnyH_done (by kernel_rfl) ?_ _
      clear hHeld
      try go_simp
      have sS0 := unhide S0
      replace r3 := r3.set_other (p := ⟨w1.heap.size, 0, none⟩) (by dsimp only; omega) (.slice a5 SQ.length c5)
      replace r4 := r4.set_other (p := ⟨w1.heap.size, 0, none⟩) (by dsimp only; omega) (.slice a5 SQ.length c5)
      replace r5 := r5.set_other (p := ⟨w1.heap.size, 0, none⟩) (by dsimp only; omega) (.slice a5 SQ.length c5)
      replace p0 := cell_aside (.slice a5 SQ.length c5) (r := ⟨w1.heap.size, 0, none⟩) (by dsimp only; omega) p0
      replace p1 := cell_aside (.slice a5 SQ.length c5) (r := ⟨w1.heap.size, 0, none⟩) (by dsimp only; omega) p1
      replace p2 := cell_aside (.slice a5 SQ.length c5) (r := ⟨w1.heap.size, 0, none⟩) (by dsimp only; omega) p2
      replace q0 := cell_aside (.slice a5 SQ.length c5) (r := ⟨w1.heap.size, 0, none⟩) (by dsimp only; omega) q0
      replace q1 := cell_aside (.slice a5 SQ.length c5) (r := ⟨w1.heap.size, 0, none⟩) (by dsimp only; omega) q1
      replace q2 := cell_aside (.slice a5 SQ.length c5) (r := ⟨w1.heap.size, 0, none⟩) (by dsimp only; omega) q2
      replace qf0 : (w10.setCell ⟨w1.heap.size, 0, none⟩ (.slice a5 SQ.length c5)).frozen? _ = false := (frozen_set _ _ _ _ _).trans qf0
      replace qf1 : (w10.setCell ⟨w1.heap.size, 0, none⟩ (.slice a5 SQ.length c5)).frozen? _ = false := (frozen_set _ _ _ _ _).trans qf1
      replace qf2 : (w10.setCell ⟨w1.heap.size, 0, none⟩ (.slice a5 SQ.length c5)).frozen? _ = false := (frozen_set _ _ _ _ _).trans qf2
      replace yf0 : (w10.setCell ⟨w1.heap.size, 0, none⟩ (.slice a5 SQ.length c5)).frozen? _ = false := (frozen_set _ _ _ _ _).trans yf0
      replace y0 : (w10.setCell ⟨w1.heap.size, 0, none⟩ (.slice a5 SQ.length c5)).cell? ⟨w1.heap.size, 0, none⟩ = some (.slice a5 SQ.length c5) := cell_on _ _ _ _ _ y0
      replace K := hide ((unhide K).setNew (p := ⟨w1.heap.size, 0, none⟩) (by dsimp only; omega) (.slice a5 SQ.length c5))
      have zs12 : (w10.setCell ⟨w1.heap.size, 0, none⟩ (.slice a5 SQ.length c5)).heap.size = w10.heap.size := by simp [World.setCell]
      clear sS0
      generalize w10.setCell ⟨w1.heap.size, 0, none⟩ (.slice a5 SQ.length c5) = ws12 at *
      have hlS : SQ.length ≤ 1000000 := by have := unhide N7; rw [← unhide HS]; exact Nat.le_trans (limbs_len_le (n := (val zs).toNat + 1) (Nat.succ_le_succ (Nat.div_le_self _ _))) (by have := limbs_succ_len zs hn.1; omega)
      go_wp2_with fail
      have hnx : Nrm SQ := unhide HNS
      refine (make_any s _ r5 hnx (by omega)).mono ?_
      rintro e w13 ⟨v7, rfl, r7, k13⟩
      replace r3 := r3.kept k13 (.inr (.inr (Nat.le_refl 0)))
      replace r4 := r4.kept k13 (.inr (.inr (Nat.le_refl 0)))
      replace r5 := r5.kept k13 (.inr (.inr (Nat.le_refl 0)))
      replace qf0 := k13.loose0 (World.block_lt_of_cell? _ _ q0) qf0
      replace qf1 := k13.loose0 (World.block_lt_of_cell? _ _ q1) qf1
      replace qf2 := k13.loose0 (World.block_lt_of_cell? _ _ q2) qf2
      replace yf0 := k13.loose0 (World.block_lt_of_cell? _ _ y0) yf0
      replace p0 := k13.cell0 p0
      replace p1 := k13.cell0 p1
      replace p2 := k13.cell0 p2
      replace q0 := k13.cell0 q0
      replace q1 := k13.cell0 q1
      replace q2 := k13.cell0 q2
      replace y0 := k13.cell0 y0
      replace K := hide ((unhide K).trans k13)
      have z14 := k13.size
      clear k13
      obtain ⟨M7, hM7⟩ : ∃ y, wval s SQ = y := ⟨_, rfl⟩
      rw [hM7] at r7
      rw [hM7]
      have e7 : M7 = MM := by rw [← hM7, ← unhide HM2]; rw [← unhide HS]; simp
      subst e7
      clear hM7 HM2
      have w7 : WN (wsg M7) (wlm M7) := wn_int M7
      have n7 : (wlm M7).length ≤ 50000 := unhide N7
      obtain ⟨a7, c7, hv⟩ := Row.form' r7
      subst hv
      go_wp2_with fail
      refine (make4_spec (wsg M7) low M7 (wval_int M7) (by omega) (by omega) _ r7 w7 n7).mono ?_
      rintro e w15 ⟨v8, rfl, r8, k15⟩
      replace r3 := r3.kept k15 (.inr (.inr (Nat.le_refl 0)))
      replace r4 := r4.kept k15 (.inr (.inr (Nat.le_refl 0)))
      replace r5 := r5.kept k15 (.inr (.inr (Nat.le_refl 0)))
      replace r7 := r7.kept k15 (.inr (.inr (Nat.le_refl 0)))
      replace qf0 := k15.loose0 (World.block_lt_of_cell? _ _ q0) qf0
      replace qf1 := k15.loose0 (World.block_lt_of_cell? _ _ q1) qf1
      replace qf2 := k15.loose0 (World.block_lt_of_cell? _ _ q2) qf2
      replace yf0 := k15.loose0 (World.block_lt_of_cell? _ _ y0) yf0
      replace p0 := k15.cell0 p0
      replace p1 := k15.cell0 p1
      replace p2 := k15.cell0 p2
      replace q0 := k15.cell0 q0
      replace q1 := k15.cell0 q1
      replace q2 := k15.cell0 q2
      replace y0 := k15.cell0 y0
      replace K := hide ((unhide K).trans k15)
      have z16 := k15.size
      clear k15
      obtain ⟨G2, hG2⟩ : ∃ y, dlm M7 = y := ⟨_, rfl⟩
      rw [hG2] at r8
      have HG2 := hide hG2
      clear hG2
      obtain ⟨a8, c8, hv⟩ := Row.form' r8
      subst hv
      obtain ⟨G1, hG1⟩ : ∃ y, wsg M7 = y := ⟨_, rfl⟩
      obtain ⟨G3, hG3⟩ : ∃ y, dex M7 low = y := ⟨_, rfl⟩
      rw [hG1, hG3]
      have HG1 := hide hG1
      have HG3 := hide hG3
      clear hG1 hG3
      have KF := hide ((((unhide K).setNew (p := ⟨w.heap.size + 1, 0, none⟩) (by simp) (.bool G1)).setNew (p := ⟨w.heap.size + 1, 1, none⟩) (by simp) (.slice a8 G2.length c8)).setNew (p := ⟨w.heap.size + 1, 2, none⟩) (by simp) (.int .i64 G3))
      have RF := hide ((((r8.set_other (p := ⟨w.heap.size + 1, 0, none⟩) (.inl (by have := unhide S0; dsimp only; omega)) (.bool G1)).set_other (p := ⟨w.heap.size + 1, 1, none⟩) (.inl (by have := unhide S0; dsimp only; omega)) (.slice a8 G2.length c8)).set_other (p := ⟨w.heap.size + 1, 2, none⟩) (.inl (by have := unhide S0; dsimp only; omega)) (.int .i64 G3)).tight.wider (lo' := w.heap.size) (by have := unhide S0; omega) (Nat.le_refl _))
      clear r3 r4 r5 r7 r8 K
      go_wp2_with fail
      exact bodyPost_ret (v := .tuple #[.agg #[.bool G1, .slice a8 G2.length c8, .int .i64 G3], .bool false]) (by simp [results, Tryz.results163, go_sem, q0, q1, q2]) rfl ⟨_, by rw [unhide HG1, unhide HG3], by rw [unhide HG2]; exact .inr (unhide RF), unhide KF⟩

end Go.Proofs.YthahoabkehcgbaaGreatDoor

