/-
  Contracts that the proofs of this seat share: Dy8, Dy9, DyR.
-/
import Derived.Test.YtlenocminckbkaaDoorDy7
import Derived.Test.YtlenocminckbkaaDoorBR
namespace Go.Proofs.YtlenocminckbkaaDoor
open Go.RowKit
set_option linter.unusedVariables false
set_option maxRecDepth 8000
set_option linter.unusedSimpArgs false

theorem d_ok {s : Bool} {zs : List Int} {x : Int} (h : dokB s zs x = true) (m : Int) (hm : m.natAbs = (val zs).toNat) : ansDB true m x = true ∧ ansDS true m x = wsg m ∧ ansDL true m x = zs ∧ ansDE true m x = x := by
  obtain ⟨e1, e2⟩ := d_form h m hm
  obtain ⟨h1, h2, h3, -, -⟩ := dok_parts h
  obtain ⟨-, -, hl, -⟩ := wok_int h1
  have hb : ansDB true m x = true := by
    unfold ansDB
    rw [dok_told, e1, e2, decide_eq_true hl, decide_eq_true h2, decide_eq_true h3]
    rfl
  obtain ⟨b1, b2, b3⟩ := ansD_yes hb
  exact ⟨hb, b1, by rw [b2, e1], by rw [b3, e2]⟩
theorem neg_abs {s : Bool} {zs : List Int} (h : Lim zs) : (-wval s zs).natAbs = (val zs).toNat := by rw [Int.natAbs_neg, wval_abs h]
theorem wn_neg {s : Bool} {zs : List Int} (h : Nrm zs) (h0 : 0 < zs.length) (t : Bool) : WN t zs := ⟨h, fun _ => h0⟩
theorem wlm_neg {s : Bool} {zs : List Int} (h : Nrm zs) : wlm (-wval s zs) = zs := by unfold wlm; rw [neg_abs h.1]; exact (nrm_limbs h).symm
theorem wval_not (s : Bool) (zs : List Int) : wval (!s) zs = -wval s zs := by unfold wval; cases s <;> simp
/-- May it be shifted so far? -/
def l4eB (k : Int) : Bool := decide (-12000 ≤ k) && decide (k ≤ 12000)

end Go.Proofs.YtlenocminckbkaaDoor

namespace Go.Proofs.YtlenocminckbkaaDoor
open Go.RowKit
set_option linter.unusedVariables false
set_option maxRecDepth 8000
set_option linter.unusedSimpArgs false

theorem fits_ans {c : Bool} (hc : c = true) (m x : Int) : (dokB (wsg m) (dlm m) (dex m x) && wsg m) = ansDS c m x ∧ (if dokB (wsg m) (dlm m) (dex m x) = true then dex m x else 0) = ansDE c m x ∧ dokB (wsg m) (dlm m) (dex m x) = ansDB c m x ∧ (if dokB (wsg m) (dlm m) (dex m x) = true then dlm m else []) = ansDL c m x := by
  subst hc; exact ⟨rfl, rfl, rfl, rfl⟩
theorem dex_range (m x : Int) (h1 : x ≤ 1000000) (h0 : -1000000 ≤ x) {K : Nat} (hm : m.natAbs < 2 ^ K) (hK : K ≤ 800000) : dex m x ≤ 9223372036854775807 ∧ -9223372036854775808 ≤ dex m x := by
  unfold dex
  split
  · omega
  · rename_i h
    have := tz_lt (n := m.natAbs) (by omega) hm
    omega
theorem wval_lt {s : Bool} {zs : List Int} (h : Lim zs) : (wval s zs).natAbs < 2 ^ (16 * zs.length) := by
  rw [wval_abs h]
  have h1 := val_lt h
  have h2 := val_nonneg h
  rw [pow_limb] at h1
  omega
/-- A number that is odd, or nought, elsewhere. -/
theorem shift_form {s : Bool} {zs : List Int} {x : Int} (h : dokB s zs x = true) (h0 : 0 < zs.length) (k : Int) : dlm (wval s zs) = zs ∧ dex (wval s zs) (x + k) = x + k ∧ wsg (wval s zs) = s := by
  have hw := wok_wn (dok_parts h).1
  obtain ⟨e1, e2⟩ := d_form h (wval s zs) (wval_abs hw.1.1)
  refine ⟨e1, ?_, wn_sign hw⟩
  have hne := (shr_wn hw h0).2.2
  unfold dex at e2 ⊢
  rw [if_neg hne] at e2 ⊢
  omega
theorem shift_zero (x : Int) : ansDB true 0 x = true ∧ ansDS true 0 x = false ∧ ansDL true 0 x = [] ∧ ansDE true 0 x = 0 := by
  have hb : ansDB true 0 x = true := by unfold ansDB; rw [dlm_zero]; simp [dex]; rfl
  obtain ⟨b1, b2, b3⟩ := ansD_yes hb
  exact ⟨hb, by rw [b1]; rfl, by rw [b2, dlm_zero], by rw [b3]; simp [dex]⟩

end Go.Proofs.YtlenocminckbkaaDoor

namespace Go.Proofs.YtlenocminckbkaaDoor
open Go.RowKit
set_option linter.unusedVariables false
set_option maxRecDepth 8000
set_option linter.unusedSimpArgs false

def modeB (mode : Int) : Bool := decide (0 ≤ mode) && decide (mode ≤ 4)
def mayR (low mode : Int) : Bool := (decide (-3000 ≤ low) && decide (low ≤ 3000)) && modeB mode
theorem mayR_iff {low mode : Int} (h : mayR low mode = true) : -3000 ≤ low ∧ low ≤ 3000 ∧ 0 ≤ mode ∧ mode ≤ 4 := by
  unfold mayR modeB at h
  simp at h
  omega
theorem new_half {w : World} {b : Nat} {u : Value} {xs : List Int} (s : Bool) (low : Int) (mo : Bool) (t : TypeId) (O : OwnA b w u xs) :
    Wrk b (w.alloc (.cells #[u, .bool s, .int .i64 low, .bool mo] t)) w.heap.size u xs ∧ Sd (w.alloc (.cells #[u, .bool s, .int .i64 low, .bool mo] t)) w.heap.size s ∧ Ex (w.alloc (.cells #[u, .bool s, .int .i64 low, .bool mo] t)) w.heap.size low ∧ Mo (w.alloc (.cells #[u, .bool s, .int .i64 low, .bool mo] t)) w.heap.size mo :=
  ⟨⟨new_cell2 _ _ _ _ _ _ rfl rfl, new_loose2 _ _ _ _ _ rfl, O.kept ((Kept.refl 0 0 w).alloc _), fun e => by have := (O.lt e).2; omega⟩, ⟨new_cell2 _ _ _ _ _ _ rfl rfl, new_loose2 _ _ _ _ _ rfl⟩, ⟨new_cell2 _ _ _ _ _ _ rfl rfl, new_loose2 _ _ _ _ _ rfl⟩, ⟨new_cell2 _ _ _ _ _ _ rfl rfl, new_loose2 _ _ _ _ _ rfl⟩⟩
theorem new_dyaA {w : World} {b : Nat} {u : Value} {xs : List Int} (s : Bool) (x : Int) (t : TypeId) (O : OwnA b w u xs) :
    Wrk b (w.alloc (.cells #[u, .bool s, .int .i64 x] t)) w.heap.size u xs ∧ Sd (w.alloc (.cells #[u, .bool s, .int .i64 x] t)) w.heap.size s ∧ Ex (w.alloc (.cells #[u, .bool s, .int .i64 x] t)) w.heap.size x :=
  ⟨⟨new_cell2 _ _ _ _ _ _ rfl rfl, new_loose2 _ _ _ _ _ rfl, O.kept ((Kept.refl 0 0 w).alloc _), fun e => by have := (O.lt e).2; omega⟩, ⟨new_cell2 _ _ _ _ _ _ rfl rfl, new_loose2 _ _ _ _ _ rfl⟩, ⟨new_cell2 _ _ _ _ _ _ rfl rfl, new_loose2 _ _ _ _ _ rfl⟩⟩
theorem scN_le (V : Nat) (k : Int) (j : Nat) (hk : k ≤ 16 * (j : Int)) : scN V k ≤ V * 2 ^ (16 * j) := by
  unfold scN
  split
  · exact Nat.mul_le_mul_left _ (Nat.pow_le_pow_right (by decide) (by omega))
  · exact Nat.le_trans (Nat.div_le_self _ _) (Nat.le_mul_of_pos_right _ (Nat.pow_pos (by decide)))
theorem scN_len {zs : List Int} (h : Lim zs) (k : Int) (j : Nat) (hk : k ≤ 16 * (j : Int)) : (limbs (scN (val zs).toNat k)).length ≤ zs.length + j := by
  refine (limbs_length_le _ _).2 ?_
  have h1 := val_lt h
  have h2 := val_nonneg h
  have h3 := scN_le (val zs).toNat k j hk
  rw [pow_limb] at h1 ⊢
  have h4 : (val zs).toNat < 2 ^ (16 * zs.length) := by omega
  have h5 : (val zs).toNat * 2 ^ (16 * j) < 2 ^ (16 * zs.length) * 2 ^ (16 * j) := Nat.mul_lt_mul_of_pos_right h4 (Nat.pow_pos (by decide))
  rw [← Nat.pow_add, ← Nat.mul_add] at h5
  exact_mod_cast Nat.lt_of_le_of_lt h3 h5
theorem rndN_le (mode : Nat) (s : Bool) (H : Nat) (mo : Bool) : rndN mode s H mo ≤ H + 1 := by
  unfold rndN
  split <;> omega
theorem rndN_len (mode : Nat) (s : Bool) (H : Nat) (mo : Bool) : (limbs (rndN mode s H mo)).length ≤ (limbs H).length + 1 := by
  refine Nat.le_trans (limbs_len_le (rndN_le mode s H mo)) ?_
  have := limbs_succ_len (limbs H) (limbs_nrm H)
  rw [limbs_val, Int.toNat_natCast] at this
  exact this
theorem rnd_told {s : Bool} {zs : List Int} {x low : Int} (h : dokB s zs x = true) (mode : Nat) (hX : rndX (scN (val zs).toNat (x - (low - 1))) (scL (val zs).toNat (x - (low - 1))) = true) :
    ansDB true (rndM mode s (val zs).toNat (x - (low - 1))) low = true := by
  obtain ⟨h1, h2, h3, h4, h5⟩ := dok_parts h
  have hw := wok_wn h1
  have hle : zs = [] ∨ low ≤ x := by
    by_cases h0 : zs = []
    · exact .inl h0
    · refine .inr ?_
      rcases Int.lt_or_le x low with hlt | hge
      · exfalso
        obtain ⟨K, hK⟩ : ∃ K : Nat, low - x = K := ⟨(low - x).toNat, by omega⟩
        have e1 : x - (low - 1) = 1 - (K : Int) := by omega
        have hv := val_nonneg hw.1.1
        have := (rnd_low (K := K) (V := (val zs).toNat) (by omega) (by have := h5 h0; omega) mode s).1
        rw [e1, this] at hX
        cases hX
      · exact hge
  obtain ⟨-, g2, g3, g4⟩ := rnd_same (low := low) hw h5 h4 hle mode
  unfold ansDB
  rw [g2, g3, g4, h]
  rfl
theorem ans_form {c : Bool} {m x : Int} (h : ansDB c m x = true) : Lim (ansDL c m x) ∧ limbs (val (ansDL c m x)).toNat = ansDL c m x ∧ (ansDS c m x && decide (0 < (ansDL c m x).length)) = ansDS c m x := by
  obtain ⟨b1, b2, b3⟩ := ansD_yes h
  have hn : Nrm (dlm m) := limbs_nrm _
  rw [b1, b2]
  refine ⟨hn.1, (nrm_limbs hn).symm, ?_⟩
  by_cases h0 : m = 0
  · subst h0; rfl
  · rw [decide_eq_true (dlm_pos h0).1, Bool.and_true]

set_option maxHeartbeats 2000000 in
theorem mode_spec (x : Int) (w : World) :
    Calls Tryd.prog 13 #[.int .i64 x] w fun e w' => e = .returned (.bool (modeB x)) ∧ w' = w := by
  have HB : Hid (modeB x = (decide (0 ≤ x) && decide (x ≤ 4))) := rfl
  generalize modeB x = Q at *
  go_enter Tryd.func13, Tryd.ntmps13
  by_cases h1 : 0 ≤ x
  rotate_left
  · have hd : decide (0 ≤ x) = false := decide_eq_false h1
    go_wp2_with fail
    go_ret
    exact ⟨by rw [unhide HB, hd]; rfl, rfl⟩
  have hd : decide (0 ≤ x) = true := decide_eq_true h1
  go_wp2_with fail
  go_ret
  exact ⟨by rw [unhide HB, hd]; rfl, rfl⟩

set_option maxHeartbeats 2000000 in
theorem isMode_impl (x : Int) (w : World) :
    Calls Tryd.prog 57 #[.int .i64 x] w fun e w' => e = .returned (.bool (modeB x)) ∧ w' = w := by
  have HB : Hid (modeB x = (decide (0 ≤ x) && decide (x ≤ 4))) := rfl
  generalize modeB x = Q at *
  go_enter Tryd.func57, Tryd.ntmps57
  by_cases h1 : 0 ≤ x
  rotate_left
  · have hd : decide (0 ≤ x) = false := decide_eq_false h1
    go_wp2_with fail
    go_ret
    exact ⟨by rw [unhide HB, hd]; rfl, rfl⟩
  have hd : decide (0 ≤ x) = true := decide_eq_true h1
  go_wp2_with fail
  go_ret
  exact ⟨by rw [unhide HB, hd]; rfl, rfl⟩

set_option maxHeartbeats 2000000 in
theorem mayRound_impl (low mode : Int) (w : World) :
    Calls Tryd.prog 34 #[.int .i64 low, .int .i64 mode] w fun e w' => e = .returned (.bool (mayR low mode)) ∧ w' = w := by
  have HB : Hid (mayR low mode = ((decide (-3000 ≤ low) && decide (low ≤ 3000)) && modeB mode)) := rfl
  generalize mayR low mode = Q at *
  go_enter Tryd.func34, Tryd.ntmps34
  by_cases h1 : -3000 ≤ low
  rotate_left
  · have hd : decide (-3000 ≤ low) = false := decide_eq_false h1
    go_wp2_with fail
    go_ret
    exact ⟨by rw [unhide HB, hd]; rfl, rfl⟩
  have hd : decide (-3000 ≤ low) = true := decide_eq_true h1
  by_cases h2 : low ≤ 3000
  rotate_left
  · have hd2 : decide (low ≤ 3000) = false := decide_eq_false h2
    go_wp2_with fail
    go_ret
    exact ⟨by rw [unhide HB, hd, hd2]; rfl, rfl⟩
  have hd2 : decide (low ≤ 3000) = true := decide_eq_true h2
  go_wp2_with fail
  refine (isMode_impl mode _).mono ?_
  rintro e w5 ⟨rfl, rfl⟩
  have HD := hide (And.intro hd hd2)
  clear hd hd2
  go_wp2_with fail
  go_ret
  exact ⟨by rw [unhide HB, (unhide HD).1, (unhide HD).2]; rfl, rfl⟩

set_option maxHeartbeats 4000000 in
theorem dround_impl {bw : Bool} {lo hi : Nat} {v : Value} {zs : List Int} (s : Bool) (x : Int) (hx1 : x ≤ 9223372036854775807) (hx0 : -9223372036854775808 ≤ x) (low mode : Int) (w : World) (r : Row .i64 bw lo hi w v zs) (T : TabB w) :
    Calls Tryd.prog 20 #[.agg #[.bool s, v, .int .i64 x], .int .i64 low, .int .i64 mode] w fun e w' => ∃ v', e = .returned (.tuple #[.agg #[.bool (ansDS (dokB s zs x && mayR low mode) (rndM mode.toNat s (val zs).toNat (x - (low - 1))) low), v', .int .i64 (ansDE (dokB s zs x && mayR low mode) (rndM mode.toNat s (val zs).toNat (x - (low - 1))) low)], .bool ((dokB s zs x && mayR low mode) && rndX (scN (val zs).toNat (x - (low - 1))) (scL (val zs).toNat (x - (low - 1)))), .bool (ansDB (dokB s zs x && mayR low mode) (rndM mode.toNat s (val zs).toNat (x - (low - 1))) low)]) ∧ Row .i64 true w.heap.size w'.heap.size w' v' (ansDL (dokB s zs x && mayR low mode) (rndM mode.toNat s (val zs).toNat (x - (low - 1))) low) ∧ Kept 0 0 w w' := by
  obtain ⟨GS, hGS⟩ : ∃ y, ansDS (dokB s zs x && mayR low mode) (rndM mode.toNat s (val zs).toNat (x - (low - 1))) (low) = y := ⟨_, rfl⟩
  obtain ⟨GL, hGL⟩ : ∃ y, ansDL (dokB s zs x && mayR low mode) (rndM mode.toNat s (val zs).toNat (x - (low - 1))) (low) = y := ⟨_, rfl⟩
  obtain ⟨GE, hGE⟩ : ∃ y, ansDE (dokB s zs x && mayR low mode) (rndM mode.toNat s (val zs).toNat (x - (low - 1))) (low) = y := ⟨_, rfl⟩
  obtain ⟨GB, hGB⟩ : ∃ y, ansDB (dokB s zs x && mayR low mode) (rndM mode.toNat s (val zs).toNat (x - (low - 1))) (low) = y := ⟨_, rfl⟩
  try rw [hGS]
  try rw [hGL]
  try rw [hGE]
  try rw [hGB]
  have HGS := hide hGS
  have HGL := hide hGL
  have HGE := hide hGE
  have HGB := hide hGB
  clear hGS hGL hGE hGB
  obtain ⟨GX, hGX⟩ : ∃ y, ((dokB s zs x && mayR low mode) && rndX (scN (val zs).toNat (x - (low - 1))) (scL (val zs).toNat (x - (low - 1)))) = y := ⟨_, rfl⟩
  rw [hGX]
  have HGX := hide hGX
  clear hGX
  have k0 : Kept 0 0 w ((w.alloc (.cells #[.bool s, v, .int .i64 x] 48)).alloc (.cells #[.bool false, .slice none 0 0, .int .i64 0] 48)) := (((Kept.refl 0 0 w).alloc (.cells #[.bool s, v, .int .i64 x] 48)).alloc (.cells #[.bool false, .slice none 0 0, .int .i64 0] 48))
  have p0 : ((w.alloc (.cells #[.bool s, v, .int .i64 x] 48)).alloc (.cells #[.bool false, .slice none 0 0, .int .i64 0] 48)).cell? ⟨w.heap.size, 0, none⟩ = some (.bool s) := old_cell _ (new_cell2 _ _ _ _ _ _ (by simp) rfl)
  have p1 : ((w.alloc (.cells #[.bool s, v, .int .i64 x] 48)).alloc (.cells #[.bool false, .slice none 0 0, .int .i64 0] 48)).cell? ⟨w.heap.size, 1, none⟩ = some (v) := old_cell _ (new_cell2 _ _ _ _ _ _ (by simp) rfl)
  have p2 : ((w.alloc (.cells #[.bool s, v, .int .i64 x] 48)).alloc (.cells #[.bool false, .slice none 0 0, .int .i64 0] 48)).cell? ⟨w.heap.size, 2, none⟩ = some (.int .i64 x) := old_cell _ (new_cell2 _ _ _ _ _ _ (by simp) rfl)
  have q0 : ((w.alloc (.cells #[.bool s, v, .int .i64 x] 48)).alloc (.cells #[.bool false, .slice none 0 0, .int .i64 0] 48)).cell? ⟨w.heap.size + 1, 0, none⟩ = some (.bool false) := new_cell2 _ _ _ _ _ _ (by simp) rfl
  have qf0 : ((w.alloc (.cells #[.bool s, v, .int .i64 x] 48)).alloc (.cells #[.bool false, .slice none 0 0, .int .i64 0] 48)).frozen? ⟨w.heap.size + 1, 0, none⟩ = false := new_loose2 _ _ _ _ _ (by simp)
  have q1 : ((w.alloc (.cells #[.bool s, v, .int .i64 x] 48)).alloc (.cells #[.bool false, .slice none 0 0, .int .i64 0] 48)).cell? ⟨w.heap.size + 1, 1, none⟩ = some (.slice none 0 0) := new_cell2 _ _ _ _ _ _ (by simp) rfl
  have qf1 : ((w.alloc (.cells #[.bool s, v, .int .i64 x] 48)).alloc (.cells #[.bool false, .slice none 0 0, .int .i64 0] 48)).frozen? ⟨w.heap.size + 1, 1, none⟩ = false := new_loose2 _ _ _ _ _ (by simp)
  have q2 : ((w.alloc (.cells #[.bool s, v, .int .i64 x] 48)).alloc (.cells #[.bool false, .slice none 0 0, .int .i64 0] 48)).cell? ⟨w.heap.size + 1, 2, none⟩ = some (.int .i64 0) := new_cell2 _ _ _ _ _ _ (by simp) rfl
  have qf2 : ((w.alloc (.cells #[.bool s, v, .int .i64 x] 48)).alloc (.cells #[.bool false, .slice none 0 0, .int .i64 0] 48)).frozen? ⟨w.heap.size + 1, 2, none⟩ = false := new_loose2 _ _ _ _ _ (by simp)
  replace r := r.kept k0 (by omega)
  have s0 : ((w.alloc (.cells #[.bool s, v, .int .i64 x] 48)).alloc (.cells #[.bool false, .slice none 0 0, .int .i64 0] 48)).heap.size = w.heap.size + 2 := by simp
  obtain ⟨a, c, hv⟩ := Row.form' r
  subst hv
  have K := hide (k0)
  clear k0
  have S0 := hide s0
  clear s0
  go_enter Tryd.func20, Tryd.ntmps20
  go_wp2_with fail
  generalize ((w.alloc (.cells #[.bool s, .slice a zs.length c, .int .i64 x] 48)).alloc (.cells #[.bool false, .slice none 0 0, .int .i64 0] 48)) = W at *
  refine (dok_impl s x hx1 hx0 _ r).mono ?_
  rintro e w1 ⟨rfl, k1⟩
  replace r := r.kept k1 (.inr (.inr (Nat.le_refl 0)))
  replace qf0 := k1.loose0 (World.block_lt_of_cell? _ _ q0) qf0
  replace qf1 := k1.loose0 (World.block_lt_of_cell? _ _ q1) qf1
  replace qf2 := k1.loose0 (World.block_lt_of_cell? _ _ q2) qf2
  replace p0 := k1.cell0 p0
  replace p1 := k1.cell0 p1
  replace p2 := k1.cell0 p2
  replace q0 := k1.cell0 q0
  replace q1 := k1.cell0 q1
  replace q2 := k1.cell0 q2
  replace K := hide ((unhide K).trans k1)
  have z2 := k1.size
  clear k1
  cases ho : dokB s zs x
  · have HC : Hid ((dokB s zs x && mayR low mode) = false) := by show _ = _; rw [ho]; rfl
    have HF : Hid (GS = false ∧ GL = [] ∧ GE = 0 ∧ GB = false ∧ GX = false) := by
      have hno : GB = false := by rw [← unhide HGB]; exact ansDB_no (unhide HC)
      have hno' := hno
      rw [← unhide HGB] at hno'
      obtain ⟨b1, b2, b3⟩ := ansD_no hno'
      exact ⟨by rw [← unhide HGS, b1], by rw [← unhide HGL, b2], by rw [← unhide HGE, b3], hno, by rw [← unhide HGX, unhide HC]; rfl⟩
    have KF := hide ((((unhide K).setNew (p := ⟨w.heap.size + 1, 0, none⟩) (by simp) (.bool false)).setNew (p := ⟨w.heap.size + 1, 1, none⟩) (by simp) (.slice none 0 0)).setNew (p := ⟨w.heap.size + 1, 2, none⟩) (by simp) (.int .i64 0))
    clear r K
    go_wp2_with fail
    exact bodyPost_ret (v := .tuple #[.agg #[.bool false, .slice none 0 0, .int .i64 0], .bool false, .bool false]) (by simp [results, Tryd.results20, go_sem, q0, q1, q2]) rfl ⟨_, by rw [(unhide HF).1, (unhide HF).2.2.1, (unhide HF).2.2.2.1, (unhide HF).2.2.2.2], by rw [(unhide HF).2.1]; exact Row.nil _ _ _ _ _, unhide KF⟩
  have HO := hide ho
  clear ho
  go_wp2_with fail
  refine (mayRound_impl low mode _).mono ?_
  rintro e w5 ⟨rfl, rfl⟩
  cases hk : mayR low mode
  · have HC : Hid ((dokB s zs x && mayR low mode) = false) := by show _ = _; rw [hk]; simp
    have HF : Hid (GS = false ∧ GL = [] ∧ GE = 0 ∧ GB = false ∧ GX = false) := by
      have hno : GB = false := by rw [← unhide HGB]; exact ansDB_no (unhide HC)
      have hno' := hno
      rw [← unhide HGB] at hno'
      obtain ⟨b1, b2, b3⟩ := ansD_no hno'
      exact ⟨by rw [← unhide HGS, b1], by rw [← unhide HGL, b2], by rw [← unhide HGE, b3], hno, by rw [← unhide HGX, unhide HC]; rfl⟩
    have KF := hide ((((unhide K).setNew (p := ⟨w.heap.size + 1, 0, none⟩) (by simp) (.bool false)).setNew (p := ⟨w.heap.size + 1, 1, none⟩) (by simp) (.slice none 0 0)).setNew (p := ⟨w.heap.size + 1, 2, none⟩) (by simp) (.int .i64 0))
    clear r K
    go_wp2_with fail
    exact bodyPost_ret (v := .tuple #[.agg #[.bool false, .slice none 0 0, .int .i64 0], .bool false, .bool false]) (by simp [results, Tryd.results20, go_sem, q0, q1, q2]) rfl ⟨_, by rw [(unhide HF).1, (unhide HF).2.2.1, (unhide HF).2.2.2.1, (unhide HF).2.2.2.2], by rw [(unhide HF).2.1]; exact Row.nil _ _ _ _ _, unhide KF⟩
  have HC : Hid ((dokB s zs x && mayR low mode) = true) := by show _ = _; rw [unhide HO, hk]; rfl
  obtain ⟨h1, h2, h3, h4, h5⟩ := dok_parts (unhide HO)
  have wn := wok_wn h1
  obtain ⟨-, -, hl, hn⟩ := wok_int h1
  have hmm := mayR_iff hk
  clear hk h1
  go_wp2_with fail
  refine (dyadicOf_impl s x _ r (by omega)).mono ?_
  rintro e w3 ⟨v3, rfl, o3, k3⟩
  replace r := r.kept k3 (.inr (.inr (Nat.le_refl 0)))
  replace qf0 := k3.loose0 (World.block_lt_of_cell? _ _ q0) qf0
  replace qf1 := k3.loose0 (World.block_lt_of_cell? _ _ q1) qf1
  replace qf2 := k3.loose0 (World.block_lt_of_cell? _ _ q2) qf2
  replace p0 := k3.cell0 p0
  replace p1 := k3.cell0 p1
  replace p2 := k3.cell0 p2
  replace q0 := k3.cell0 q0
  replace q1 := k3.cell0 q1
  replace q2 := k3.cell0 q2
  replace K := hide ((unhide K).trans k3)
  have z4 := k3.size
  clear k3
  clear r
  have l3 := o3.lt
  obtain ⟨nd, dd, ee⟩ := new_dya s x 75 o3
  have kn := (Kept.refl 0 0 w3).alloc (.cells #[v3, .bool s, .int .i64 x] 75)
  obtain ⟨a3, c3, hv⟩ := own_slice o3
  subst hv
  replace qf0 := kn.loose0 (World.block_lt_of_cell? _ _ q0) qf0
  replace qf1 := kn.loose0 (World.block_lt_of_cell? _ _ q1) qf1
  replace qf2 := kn.loose0 (World.block_lt_of_cell? _ _ q2) qf2
  replace p0 := kn.cell0 p0
  replace p1 := kn.cell0 p1
  replace p2 := kn.cell0 p2
  replace q0 := kn.cell0 q0
  replace q1 := kn.cell0 q1
  replace q2 := kn.cell0 q2
  replace K := hide ((unhide K).trans kn)
  have z5 := kn.size
  clear kn o3
  skip
  go_wp2_with fail
  generalize w3.alloc (.cells #[.slice a3 zs.length c3, .bool s, .int .i64 x] 75) = W9 at *
  obtain ⟨M, hM⟩ : ∃ y, rndM mode.toNat s (val zs).toNat (x - (low - 1)) = y := ⟨_, rfl⟩
  obtain ⟨RX, hRX⟩ : ∃ y, rndX (scN (val zs).toNat (x - (low - 1))) (scL (val zs).toNat (x - (low - 1))) = y := ⟨_, rfl⟩
  have gE : GX = RX := by rw [← unhide HGX, unhide HC, hRX, Bool.true_and]
  subst gE
  obtain ⟨H, hH⟩ : ∃ y, scN (val zs).toNat (x - (low - 1)) = y := ⟨_, rfl⟩
  obtain ⟨L, hL⟩ : ∃ y, scL (val zs).toNat (x - (low - 1)) = y := ⟨_, rfl⟩
  have nH : (limbs H).length ≤ 2000 := by rw [← hH]; have := scN_len hn.1 (x - (low - 1)) 1000 (by omega); omega
  have hRX2 : rndX H L = GX := by rw [← hH, ← hL]; exact hRX
  have hM2 : wval s (limbs (rndN mode.toNat s H L)) = M := by rw [← hH, ← hL]; exact hM
  have hgs := unhide HGS
  have hgl := unhide HGL
  have hge := unhide HGE
  have hgb := unhide HGB
  rw [hM, unhide HC] at hgs hgl hge hgb
  clear hM hRX
  have mc := cut_impl _ nd dd ee hn (by omega) (by have := unhide S0; omega) low (by omega) (by omega) (by omega) (by omega) (T.kept (unhide K))
  rw [hH, hL] at mc
  clear hH hL HGX
  refine mc.mono ?_
  rintro e w6 ⟨u6, rfl, o6, m6⟩
  clear mc
  have hS : ∀ i, (Value.slice a3 zs.length c3).ownBlock = some i → w.heap.size + 2 ≤ i := fun i e => by have := (l3 _ e).1; have := unhide S0; omega
  have nS : ¬ (Value.slice a3 zs.length c3).ownBlock = some (w.heap.size + 1) := fun e => by have := hS _ e; omega
  replace qf0 := m6.loose (a := ⟨w.heap.size + 1, 0, none⟩) nS (World.block_lt_of_cell? _ _ q0) qf0
  replace qf1 := m6.loose (a := ⟨w.heap.size + 1, 1, none⟩) nS (World.block_lt_of_cell? _ _ q1) qf1
  replace qf2 := m6.loose (a := ⟨w.heap.size + 1, 2, none⟩) nS (World.block_lt_of_cell? _ _ q2) qf2
  replace q0 := m6.cell (a := ⟨w.heap.size + 1, 0, none⟩) nS q0
  replace q1 := m6.cell (a := ⟨w.heap.size + 1, 1, none⟩) nS q1
  replace q2 := m6.cell (a := ⟨w.heap.size + 1, 2, none⟩) nS q2
  replace K := hide ((unhide K).mod m6 (fun i e => by have := hS i e; omega))
  have z6 := m6.size
  clear m6 hS nS nd dd ee p0 p1 p2
  obtain ⟨a6, c6, hv⟩ := Row.form' o6.row
  subst hv
  have l6 := fun i (e : (Value.slice a6 (limbs H).length c6).ownBlock = some i) => o6.lt e
  obtain ⟨n7, d7, e7, m7⟩ := new_half s low L 78 o6
  have kn := (Kept.refl 0 0 w6).alloc (.cells #[.slice a6 (limbs H).length c6, .bool s, .int .i64 low, .bool L] 78)
  have z7 : (w6.alloc (.cells #[.slice a6 (limbs H).length c6, .bool s, .int .i64 low, .bool L] 78)).heap.size = w6.heap.size + 1 := by simp
  replace qf0 := kn.loose0 (World.block_lt_of_cell? _ _ q0) qf0
  replace qf1 := kn.loose0 (World.block_lt_of_cell? _ _ q1) qf1
  replace qf2 := kn.loose0 (World.block_lt_of_cell? _ _ q2) qf2
  replace q0 := kn.cell0 q0
  replace q1 := kn.cell0 q1
  replace q2 := kn.cell0 q2
  replace K := hide ((unhide K).trans kn)
  have z6 := kn.size
  clear kn o6
  go_wp2_with fail
  generalize w6.alloc (.cells #[.slice a6 (limbs H).length c6, .bool s, .int .i64 low, .bool L] 78) = W7 at *
  have hx := isExact_impl _ n7.work (limbs_lim _) m7
  rw [limbs_val, Int.toNat_natCast] at hx
  have hx2 : (decide (H % 2 = 0) && !L) = GX := hRX2
  rw [hx2] at hx
  refine hx.mono ?_
  rintro e w8 ⟨rfl, rfl⟩
  clear hx hx2 hRX2
  go_wp2_with fail
  have hr := rounded_impl _ n7 (limbs_nrm _) (by omega) d7 e7 m7 (by have := unhide S0; omega) mode (by omega) (by omega)
  rw [limbs_val, Int.toNat_natCast] at hr
  obtain ⟨R, hR⟩ : ∃ y, rndN mode.toNat s H L = y := ⟨_, rfl⟩
  rw [hR] at hr
  have nR : (limbs R).length ≤ 2001 := by rw [← hR]; have := rndN_len mode.toNat s H L; omega
  rw [hR] at hM2
  clear hR
  refine hr.mono ?_
  rintro e w9 ⟨u9, rfl, o9, m9⟩
  clear hr
  have hS : ∀ i, Own1 w6.heap.size (.slice a6 (limbs H).length c6) i → w.heap.size + 2 ≤ i := fun i e => e.elim (fun e => by have := unhide S0; omega) (fun e => by have := (l6 _ e).1; have := unhide S0; omega)
  have nS : ¬ Own1 w6.heap.size (.slice a6 (limbs H).length c6) (w.heap.size + 1) := fun e => by have := hS _ e; omega
  replace qf0 := m9.loose (a := ⟨w.heap.size + 1, 0, none⟩) nS (World.block_lt_of_cell? _ _ q0) qf0
  replace qf1 := m9.loose (a := ⟨w.heap.size + 1, 1, none⟩) nS (World.block_lt_of_cell? _ _ q1) qf1
  replace qf2 := m9.loose (a := ⟨w.heap.size + 1, 2, none⟩) nS (World.block_lt_of_cell? _ _ q2) qf2
  replace q0 := m9.cell (a := ⟨w.heap.size + 1, 0, none⟩) nS q0
  replace q1 := m9.cell (a := ⟨w.heap.size + 1, 1, none⟩) nS q1
  replace q2 := m9.cell (a := ⟨w.heap.size + 1, 2, none⟩) nS q2
  replace K := hide ((unhide K).mod m9 (fun i e => by have := hS i e; omega))
  have z9 := m9.size
  clear m9 hS nS n7 d7 e7 m7 l6
  obtain ⟨a9, c9, hv⟩ := Row.form' o9.row
  subst hv
  have l9 := fun i (e : (Value.slice a9 (limbs R).length c9).ownBlock = some i) => o9.lt e
  obtain ⟨nA, dA, eA⟩ := new_dyaA s low 75 o9
  have kn := (Kept.refl 0 0 w9).alloc (.cells #[.slice a9 (limbs R).length c9, .bool s, .int .i64 low] 75)
  have zA : (w9.alloc (.cells #[.slice a9 (limbs R).length c9, .bool s, .int .i64 low] 75)).heap.size = w9.heap.size + 1 := by simp
  replace qf0 := kn.loose0 (World.block_lt_of_cell? _ _ q0) qf0
  replace qf1 := kn.loose0 (World.block_lt_of_cell? _ _ q1) qf1
  replace qf2 := kn.loose0 (World.block_lt_of_cell? _ _ q2) qf2
  replace q0 := kn.cell0 q0
  replace q1 := kn.cell0 q1
  replace q2 := kn.cell0 q2
  replace K := hide ((unhide K).trans kn)
  have z7 := kn.size
  clear kn o9
  go_wp2_with fail
  generalize w9.alloc (.cells #[.slice a9 (limbs R).length c9, .bool s, .int .i64 low] 75) = WA at *
  have ht := toldDyadic_wrk M hM2 _ nA dA eA (limbs_nrm _) (by omega) (by omega) (by omega) (T.kept (unhide K))
  rw [hgs, hgl, hge, hgb] at ht
  refine ht.mono ?_
  rintro e wB ⟨v7, rfl, r7, mB⟩
  clear ht hgs hgl hge hgb hM2
  have hS : ∀ i, Own1 w9.heap.size (.slice a9 (limbs R).length c9) i → w.heap.size + 2 ≤ i := fun i e => e.elim (fun e => by have := unhide S0; omega) (fun e => by have := (l9 _ e).1; have := unhide S0; omega)
  have nS : ¬ Own1 w9.heap.size (.slice a9 (limbs R).length c9) (w.heap.size + 1) := fun e => by have := hS _ e; omega
  replace qf0 := mB.loose (a := ⟨w.heap.size + 1, 0, none⟩) nS (World.block_lt_of_cell? _ _ q0) qf0
  replace qf1 := mB.loose (a := ⟨w.heap.size + 1, 1, none⟩) nS (World.block_lt_of_cell? _ _ q1) qf1
  replace qf2 := mB.loose (a := ⟨w.heap.size + 1, 2, none⟩) nS (World.block_lt_of_cell? _ _ q2) qf2
  replace q0 := mB.cell (a := ⟨w.heap.size + 1, 0, none⟩) nS q0
  replace q1 := mB.cell (a := ⟨w.heap.size + 1, 1, none⟩) nS q1
  replace q2 := mB.cell (a := ⟨w.heap.size + 1, 2, none⟩) nS q2
  replace K := hide ((unhide K).mod mB (fun i e => by have := hS i e; omega))
  have zB := mB.size
  clear mB hS nS nA dA eA l9 nR nH wn hn
  obtain ⟨a7, c7, hv⟩ := Row.form' r7
  subst hv
  have kn := (Kept.refl 0 0 wB).alloc (.cells #[.bool GS, .slice a7 GL.length c7, .int .i64 GE] 48)
  have y0 : (wB.alloc (.cells #[.bool GS, .slice a7 GL.length c7, .int .i64 GE] 48)).cell? ⟨wB.heap.size, 0, none⟩ = some (.bool GS) := new_cell2 _ _ _ _ _ _ (by simp) rfl
  have y1 : (wB.alloc (.cells #[.bool GS, .slice a7 GL.length c7, .int .i64 GE] 48)).cell? ⟨wB.heap.size, 1, none⟩ = some (.slice a7 GL.length c7) := new_cell2 _ _ _ _ _ _ (by simp) rfl
  have y2 : (wB.alloc (.cells #[.bool GS, .slice a7 GL.length c7, .int .i64 GE] 48)).cell? ⟨wB.heap.size, 2, none⟩ = some (.int .i64 GE) := new_cell2 _ _ _ _ _ _ (by simp) rfl
  have sz8 : wB.heap.size + 1 ≤ (wB.alloc (.cells #[.bool GS, .slice a7 GL.length c7, .int .i64 GE] 48)).heap.size := by simp
  replace r7 := r7.kept kn (.inr (.inr (Nat.le_refl 0)))
  replace qf0 := kn.loose0 (World.block_lt_of_cell? _ _ q0) qf0
  replace qf1 := kn.loose0 (World.block_lt_of_cell? _ _ q1) qf1
  replace qf2 := kn.loose0 (World.block_lt_of_cell? _ _ q2) qf2
  replace q0 := kn.cell0 q0
  replace q1 := kn.cell0 q1
  replace q2 := kn.cell0 q2
  replace K := hide ((unhide K).trans kn)
  have z9 := kn.size
  clear kn
  go_wp2_with fail
  generalize (wB.alloc (.cells #[.bool GS, .slice a7 GL.length c7, .int .i64 GE] 48)) = wn10 at *
  have R := hide ((((r7.set_other (p := ⟨w.heap.size + 1, 0, none⟩) (.inl (by have := unhide S0; dsimp only; omega)) (.bool GS)).set_other (p := ⟨w.heap.size + 1, 1, none⟩) (.inl (by have := unhide S0; dsimp only; omega)) (.slice a7 GL.length c7)).set_other (p := ⟨w.heap.size + 1, 2, none⟩) (.inl (by have := unhide S0; dsimp only; omega)) (.int .i64 GE)).tight.wider (lo' := w.heap.size) (by have := unhide S0; omega) (Nat.le_refl _))
  have K7 := hide ((((unhide K).setNew (p := ⟨w.heap.size + 1, 0, none⟩) (by simp) (.bool GS)).setNew (p := ⟨w.heap.size + 1, 1, none⟩) (by simp) (.slice a7 GL.length c7)).setNew (p := ⟨w.heap.size + 1, 2, none⟩) (by simp) (.int .i64 GE))
  clear r7 K 
  go_wp2_with fail
  exact bodyPost_ret (v := .tuple #[.agg #[.bool GS, .slice a7 GL.length c7, .int .i64 GE], .bool GX, .bool GB]) (by simp [results, Tryd.results20, go_sem, q0, q1, q2]) rfl ⟨_, rfl, unhide R, unhide K7⟩

end Go.Proofs.YtlenocminckbkaaDoor
