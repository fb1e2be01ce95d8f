/-
  Contracts that the proofs of this seat share: Dy8, Dy9, DyR, FlNm.
-/
import Derived.Test.YtpdgajfkhjdgaaaDoorDy7
import Derived.Test.YtpdgajfkhjdgaaaDoorBR
import Derived.Test.YtpdgajfkhjdgaaaDoorFl1
namespace Go.Proofs.YtpdgajfkhjdgaaaDoor
open Go.RowKit
set_option linter.unusedVariables false
set_option maxRecDepth 8000
set_option linter.unusedSimpArgs false

theorem d_ok {s : Bool} {zs : List Int} {x : Int} (h : dokB s zs x = true) (m : Int) (hm : m.natAbs = (val zs).toNat) : ansDB true m x = true ∧ ansDS true m x = wsg m ∧ ansDL true m x = zs ∧ ansDE true m x = x := by
  obtain ⟨e1, e2⟩ := d_form h m hm
  obtain ⟨h1, h2, h3, -, -⟩ := dok_parts h
  obtain ⟨-, -, hl, -⟩ := wok_int h1
  have hb : ansDB true m x = true := by
    unfold ansDB
    rw [dok_told, e1, e2, decide_eq_true hl, decide_eq_true h2, decide_eq_true h3]
    rfl
  obtain ⟨b1, b2, b3⟩ := ansD_yes hb
  exact ⟨hb, b1, by rw [b2, e1], by rw [b3, e2]⟩
theorem neg_abs {s : Bool} {zs : List Int} (h : Lim zs) : (-wval s zs).natAbs = (val zs).toNat := by rw [Int.natAbs_neg, wval_abs h]
theorem wn_neg {s : Bool} {zs : List Int} (h : Nrm zs) (h0 : 0 < zs.length) (t : Bool) : WN t zs := ⟨h, fun _ => h0⟩
theorem wlm_neg {s : Bool} {zs : List Int} (h : Nrm zs) : wlm (-wval s zs) = zs := by unfold wlm; rw [neg_abs h.1]; exact (nrm_limbs h).symm
theorem wval_not (s : Bool) (zs : List Int) : wval (!s) zs = -wval s zs := by unfold wval; cases s <;> simp
/-- May it be shifted so far? -/
def l4eB (k : Int) : Bool := decide (-12000 ≤ k) && decide (k ≤ 12000)

end Go.Proofs.YtpdgajfkhjdgaaaDoor

namespace Go.Proofs.YtpdgajfkhjdgaaaDoor
open Go.RowKit
set_option linter.unusedVariables false
set_option maxRecDepth 8000
set_option linter.unusedSimpArgs false

theorem in_l4fits : ∀ (w : World) (args : Array Value), (callFunc 29 args).run Tryd.prog w = .ok (.enter 29 args) w := enters Tryd.func29 (by decide) (fun h => by cases h)

theorem fits_ans {c : Bool} (hc : c = true) (m x : Int) : (dokB (wsg m) (dlm m) (dex m x) && wsg m) = ansDS c m x ∧ (if dokB (wsg m) (dlm m) (dex m x) = true then dex m x else 0) = ansDE c m x ∧ dokB (wsg m) (dlm m) (dex m x) = ansDB c m x ∧ (if dokB (wsg m) (dlm m) (dex m x) = true then dlm m else []) = ansDL c m x := by
  subst hc; exact ⟨rfl, rfl, rfl, rfl⟩
theorem dex_range (m x : Int) (h1 : x ≤ 1000000) (h0 : -1000000 ≤ x) {K : Nat} (hm : m.natAbs < 2 ^ K) (hK : K ≤ 800000) : dex m x ≤ 9223372036854775807 ∧ -9223372036854775808 ≤ dex m x := by
  unfold dex
  split
  · omega
  · rename_i h
    have := tz_lt (n := m.natAbs) (by omega) hm
    omega
theorem wval_lt {s : Bool} {zs : List Int} (h : Lim zs) : (wval s zs).natAbs < 2 ^ (16 * zs.length) := by
  rw [wval_abs h]
  have h1 := val_lt h
  have h2 := val_nonneg h
  rw [pow_limb] at h1
  omega
/-- A number that is odd, or nought, elsewhere. -/
theorem shift_form {s : Bool} {zs : List Int} {x : Int} (h : dokB s zs x = true) (h0 : 0 < zs.length) (k : Int) : dlm (wval s zs) = zs ∧ dex (wval s zs) (x + k) = x + k ∧ wsg (wval s zs) = s := by
  have hw := wok_wn (dok_parts h).1
  obtain ⟨e1, e2⟩ := d_form h (wval s zs) (wval_abs hw.1.1)
  refine ⟨e1, ?_, wn_sign hw⟩
  have hne := (shr_wn hw h0).2.2
  unfold dex at e2 ⊢
  rw [if_neg hne] at e2 ⊢
  omega
theorem shift_zero (x : Int) : ansDB true 0 x = true ∧ ansDS true 0 x = false ∧ ansDL true 0 x = [] ∧ ansDE true 0 x = 0 := by
  have hb : ansDB true 0 x = true := by unfold ansDB; rw [dlm_zero]; simp [dex]; rfl
  obtain ⟨b1, b2, b3⟩ := ansD_yes hb
  exact ⟨hb, by rw [b1]; rfl, by rw [b2, dlm_zero], by rw [b3]; simp [dex]⟩

end Go.Proofs.YtpdgajfkhjdgaaaDoor

namespace Go.Proofs.YtpdgajfkhjdgaaaDoor
open Go.RowKit
set_option linter.unusedVariables false
set_option maxRecDepth 8000
set_option linter.unusedSimpArgs false

def modeB (mode : Int) : Bool := decide (0 ≤ mode) && decide (mode ≤ 4)
def mayR (low mode : Int) : Bool := (decide (-3000 ≤ low) && decide (low ≤ 3000)) && modeB mode
theorem mayR_iff {low mode : Int} (h : mayR low mode = true) : -3000 ≤ low ∧ low ≤ 3000 ∧ 0 ≤ mode ∧ mode ≤ 4 := by
  unfold mayR modeB at h
  simp at h
  omega
theorem new_half {w : World} {b : Nat} {u : Value} {xs : List Int} (s : Bool) (low : Int) (mo : Bool) (t : TypeId) (O : OwnA b w u xs) :
    Wrk b (w.alloc (.cells #[u, .bool s, .int .i64 low, .bool mo] t)) w.heap.size u xs ∧ Sd (w.alloc (.cells #[u, .bool s, .int .i64 low, .bool mo] t)) w.heap.size s ∧ Ex (w.alloc (.cells #[u, .bool s, .int .i64 low, .bool mo] t)) w.heap.size low ∧ Mo (w.alloc (.cells #[u, .bool s, .int .i64 low, .bool mo] t)) w.heap.size mo :=
  ⟨⟨new_cell2 _ _ _ _ _ _ rfl rfl, new_loose2 _ _ _ _ _ rfl, O.kept ((Kept.refl 0 0 w).alloc _), fun e => by have := (O.lt e).2; omega⟩, ⟨new_cell2 _ _ _ _ _ _ rfl rfl, new_loose2 _ _ _ _ _ rfl⟩, ⟨new_cell2 _ _ _ _ _ _ rfl rfl, new_loose2 _ _ _ _ _ rfl⟩, ⟨new_cell2 _ _ _ _ _ _ rfl rfl, new_loose2 _ _ _ _ _ rfl⟩⟩
theorem new_dyaA {w : World} {b : Nat} {u : Value} {xs : List Int} (s : Bool) (x : Int) (t : TypeId) (O : OwnA b w u xs) :
    Wrk b (w.alloc (.cells #[u, .bool s, .int .i64 x] t)) w.heap.size u xs ∧ Sd (w.alloc (.cells #[u, .bool s, .int .i64 x] t)) w.heap.size s ∧ Ex (w.alloc (.cells #[u, .bool s, .int .i64 x] t)) w.heap.size x :=
  ⟨⟨new_cell2 _ _ _ _ _ _ rfl rfl, new_loose2 _ _ _ _ _ rfl, O.kept ((Kept.refl 0 0 w).alloc _), fun e => by have := (O.lt e).2; omega⟩, ⟨new_cell2 _ _ _ _ _ _ rfl rfl, new_loose2 _ _ _ _ _ rfl⟩, ⟨new_cell2 _ _ _ _ _ _ rfl rfl, new_loose2 _ _ _ _ _ rfl⟩⟩
theorem scN_le (V : Nat) (k : Int) (j : Nat) (hk : k ≤ 16 * (j : Int)) : scN V k ≤ V * 2 ^ (16 * j) := by
  unfold scN
  split
  · exact Nat.mul_le_mul_left _ (Nat.pow_le_pow_right (by decide) (by omega))
  · exact Nat.le_trans (Nat.div_le_self _ _) (Nat.le_mul_of_pos_right _ (Nat.pow_pos (by decide)))
theorem scN_len {zs : List Int} (h : Lim zs) (k : Int) (j : Nat) (hk : k ≤ 16 * (j : Int)) : (limbs (scN (val zs).toNat k)).length ≤ zs.length + j := by
  refine (limbs_length_le _ _).2 ?_
  have h1 := val_lt h
  have h2 := val_nonneg h
  have h3 := scN_le (val zs).toNat k j hk
  rw [pow_limb] at h1 ⊢
  have h4 : (val zs).toNat < 2 ^ (16 * zs.length) := by omega
  have h5 : (val zs).toNat * 2 ^ (16 * j) < 2 ^ (16 * zs.length) * 2 ^ (16 * j) := Nat.mul_lt_mul_of_pos_right h4 (Nat.pow_pos (by decide))
  rw [← Nat.pow_add, ← Nat.mul_add] at h5
  exact_mod_cast Nat.lt_of_le_of_lt h3 h5
theorem rndN_le (mode : Nat) (s : Bool) (H : Nat) (mo : Bool) : rndN mode s H mo ≤ H + 1 := by
  unfold rndN
  split <;> omega
theorem rndN_len (mode : Nat) (s : Bool) (H : Nat) (mo : Bool) : (limbs (rndN mode s H mo)).length ≤ (limbs H).length + 1 := by
  refine Nat.le_trans (limbs_len_le (rndN_le mode s H mo)) ?_
  have := limbs_succ_len (limbs H) (limbs_nrm H)
  rw [limbs_val, Int.toNat_natCast] at this
  exact this
theorem rnd_told {s : Bool} {zs : List Int} {x low : Int} (h : dokB s zs x = true) (mode : Nat) (hX : rndX (scN (val zs).toNat (x - (low - 1))) (scL (val zs).toNat (x - (low - 1))) = true) :
    ansDB true (rndM mode s (val zs).toNat (x - (low - 1))) low = true := by
  obtain ⟨h1, h2, h3, h4, h5⟩ := dok_parts h
  have hw := wok_wn h1
  have hle : zs = [] ∨ low ≤ x := by
    by_cases h0 : zs = []
    · exact .inl h0
    · refine .inr ?_
      rcases Int.lt_or_le x low with hlt | hge
      · exfalso
        obtain ⟨K, hK⟩ : ∃ K : Nat, low - x = K := ⟨(low - x).toNat, by omega⟩
        have e1 : x - (low - 1) = 1 - (K : Int) := by omega
        have hv := val_nonneg hw.1.1
        have := (rnd_low (K := K) (V := (val zs).toNat) (by omega) (by have := h5 h0; omega) mode s).1
        rw [e1, this] at hX
        cases hX
      · exact hge
  obtain ⟨-, g2, g3, g4⟩ := rnd_same (low := low) hw h5 h4 hle mode
  unfold ansDB
  rw [g2, g3, g4, h]
  rfl
theorem ans_form {c : Bool} {m x : Int} (h : ansDB c m x = true) : Lim (ansDL c m x) ∧ limbs (val (ansDL c m x)).toNat = ansDL c m x ∧ (ansDS c m x && decide (0 < (ansDL c m x).length)) = ansDS c m x := by
  obtain ⟨b1, b2, b3⟩ := ansD_yes h
  have hn : Nrm (dlm m) := limbs_nrm _
  rw [b1, b2]
  refine ⟨hn.1, (nrm_limbs hn).symm, ?_⟩
  by_cases h0 : m = 0
  · subst h0; rfl
  · rw [decide_eq_true (dlm_pos h0).1, Bool.and_true]

set_option maxHeartbeats 2000000 in
theorem mode_spec (x : Int) (w : World) :
    Calls Tryd.prog 27 #[.int .i64 x] w fun e w' => e = .returned (.bool (modeB x)) ∧ w' = w := by
  have HB : Hid (modeB x = (decide (0 ≤ x) && decide (x ≤ 4))) := rfl
  generalize modeB x = Q at *
  go_enter Tryd.func27, Tryd.ntmps27
  by_cases h1 : 0 ≤ x
  rotate_left
  · have hd : decide (0 ≤ x) = false := decide_eq_false h1
    go_wp2_with fail
    go_ret
    exact ⟨by rw [unhide HB, hd]; rfl, rfl⟩
  have hd : decide (0 ≤ x) = true := decide_eq_true h1
  go_wp2_with fail
  go_ret
  exact ⟨by rw [unhide HB, hd]; rfl, rfl⟩

set_option maxHeartbeats 2000000 in
theorem isMode_impl (x : Int) (w : World) :
    Calls Tryd.prog 40 #[.int .i64 x] w fun e w' => e = .returned (.bool (modeB x)) ∧ w' = w := by
  have HB : Hid (modeB x = (decide (0 ≤ x) && decide (x ≤ 4))) := rfl
  generalize modeB x = Q at *
  go_enter Tryd.func40, Tryd.ntmps40
  by_cases h1 : 0 ≤ x
  rotate_left
  · have hd : decide (0 ≤ x) = false := decide_eq_false h1
    go_wp2_with fail
    go_ret
    exact ⟨by rw [unhide HB, hd]; rfl, rfl⟩
  have hd : decide (0 ≤ x) = true := decide_eq_true h1
  go_wp2_with fail
  go_ret
  exact ⟨by rw [unhide HB, hd]; rfl, rfl⟩

set_option maxHeartbeats 2000000 in
theorem mayRound_impl (low mode : Int) (w : World) :
    Calls Tryd.prog 33 #[.int .i64 low, .int .i64 mode] w fun e w' => e = .returned (.bool (mayR low mode)) ∧ w' = w := by
  have HB : Hid (mayR low mode = ((decide (-3000 ≤ low) && decide (low ≤ 3000)) && modeB mode)) := rfl
  generalize mayR low mode = Q at *
  go_enter Tryd.func33, Tryd.ntmps33
  by_cases h1 : -3000 ≤ low
  rotate_left
  · have hd : decide (-3000 ≤ low) = false := decide_eq_false h1
    go_wp2_with fail
    go_ret
    exact ⟨by rw [unhide HB, hd]; rfl, rfl⟩
  have hd : decide (-3000 ≤ low) = true := decide_eq_true h1
  by_cases h2 : low ≤ 3000
  rotate_left
  · have hd2 : decide (low ≤ 3000) = false := decide_eq_false h2
    go_wp2_with fail
    go_ret
    exact ⟨by rw [unhide HB, hd, hd2]; rfl, rfl⟩
  have hd2 : decide (low ≤ 3000) = true := decide_eq_true h2
  go_wp2_with fail
  refine (isMode_impl mode _).mono ?_
  rintro e w5 ⟨rfl, rfl⟩
  have HD := hide (And.intro hd hd2)
  clear hd hd2
  go_wp2_with fail
  go_ret
  exact ⟨by rw [unhide HB, (unhide HD).1, (unhide HD).2]; rfl, rfl⟩

set_option maxHeartbeats 4000000 in
theorem dround_spec {bw : Bool} {lo hi : Nat} {v : Value} {zs : List Int} (s : Bool) (x : Int) (hx1 : x ≤ 9223372036854775807) (hx0 : -9223372036854775808 ≤ x) (low mode : Int) (w : World) (r : Row .i64 bw lo hi w v zs) :
    Calls Tryd.prog 8 #[.agg #[.bool s, v, .int .i64 x], .int .i64 low, .int .i64 mode] w fun e w' => ∃ v', e = .returned (.tuple #[.agg #[.bool (ansDS (dokB s zs x && mayR low mode) (rndM mode.toNat s (val zs).toNat (x - (low - 1))) low), v', .int .i64 (ansDE (dokB s zs x && mayR low mode) (rndM mode.toNat s (val zs).toNat (x - (low - 1))) low)], .bool ((dokB s zs x && mayR low mode) && rndX (scN (val zs).toNat (x - (low - 1))) (scL (val zs).toNat (x - (low - 1)))), .bool (ansDB (dokB s zs x && mayR low mode) (rndM mode.toNat s (val zs).toNat (x - (low - 1))) low)]) ∧ Row .i64 true w.heap.size w'.heap.size w' v' (ansDL (dokB s zs x && mayR low mode) (rndM mode.toNat s (val zs).toNat (x - (low - 1))) low) ∧ Kept 0 0 w w' := by
  obtain ⟨GS, hGS⟩ : ∃ y, ansDS (dokB s zs x && mayR low mode) (rndM mode.toNat s (val zs).toNat (x - (low - 1))) (low) = y := ⟨_, rfl⟩
  obtain ⟨GL, hGL⟩ : ∃ y, ansDL (dokB s zs x && mayR low mode) (rndM mode.toNat s (val zs).toNat (x - (low - 1))) (low) = y := ⟨_, rfl⟩
  obtain ⟨GE, hGE⟩ : ∃ y, ansDE (dokB s zs x && mayR low mode) (rndM mode.toNat s (val zs).toNat (x - (low - 1))) (low) = y := ⟨_, rfl⟩
  obtain ⟨GB, hGB⟩ : ∃ y, ansDB (dokB s zs x && mayR low mode) (rndM mode.toNat s (val zs).toNat (x - (low - 1))) (low) = y := ⟨_, rfl⟩
  try rw [hGS]
  try rw [hGL]
  try rw [hGE]
  try rw [hGB]
  have HGS := hide hGS
  have HGL := hide hGL
  have HGE := hide hGE
  have HGB := hide hGB
  clear hGS hGL hGE hGB
  obtain ⟨GX, hGX⟩ : ∃ y, ((dokB s zs x && mayR low mode) && rndX (scN (val zs).toNat (x - (low - 1))) (scL (val zs).toNat (x - (low - 1)))) = y := ⟨_, rfl⟩
  rw [hGX]
  have HGX := hide hGX
  clear hGX
  have k0 : Kept 0 0 w ((w.alloc (.cells #[.bool s, v, .int .i64 x] 34)).alloc (.cells #[.bool false, .slice none 0 0, .int .i64 0] 34)) := (((Kept.refl 0 0 w).alloc (.cells #[.bool s, v, .int .i64 x] 34)).alloc (.cells #[.bool false, .slice none 0 0, .int .i64 0] 34))
  have p0 : ((w.alloc (.cells #[.bool s, v, .int .i64 x] 34)).alloc (.cells #[.bool false, .slice none 0 0, .int .i64 0] 34)).cell? ⟨w.heap.size, 0, none⟩ = some (.bool s) := old_cell _ (new_cell2 _ _ _ _ _ _ (by simp) rfl)
  have p1 : ((w.alloc (.cells #[.bool s, v, .int .i64 x] 34)).alloc (.cells #[.bool false, .slice none 0 0, .int .i64 0] 34)).cell? ⟨w.heap.size, 1, none⟩ = some (v) := old_cell _ (new_cell2 _ _ _ _ _ _ (by simp) rfl)
  have p2 : ((w.alloc (.cells #[.bool s, v, .int .i64 x] 34)).alloc (.cells #[.bool false, .slice none 0 0, .int .i64 0] 34)).cell? ⟨w.heap.size, 2, none⟩ = some (.int .i64 x) := old_cell _ (new_cell2 _ _ _ _ _ _ (by simp) rfl)
  have q0 : ((w.alloc (.cells #[.bool s, v, .int .i64 x] 34)).alloc (.cells #[.bool false, .slice none 0 0, .int .i64 0] 34)).cell? ⟨w.heap.size + 1, 0, none⟩ = some (.bool false) := new_cell2 _ _ _ _ _ _ (by simp) rfl
  have qf0 : ((w.alloc (.cells #[.bool s, v, .int .i64 x] 34)).alloc (.cells #[.bool false, .slice none 0 0, .int .i64 0] 34)).frozen? ⟨w.heap.size + 1, 0, none⟩ = false := new_loose2 _ _ _ _ _ (by simp)
  have q1 : ((w.alloc (.cells #[.bool s, v, .int .i64 x] 34)).alloc (.cells #[.bool false, .slice none 0 0, .int .i64 0] 34)).cell? ⟨w.heap.size + 1, 1, none⟩ = some (.slice none 0 0) := new_cell2 _ _ _ _ _ _ (by simp) rfl
  have qf1 : ((w.alloc (.cells #[.bool s, v, .int .i64 x] 34)).alloc (.cells #[.bool false, .slice none 0 0, .int .i64 0] 34)).frozen? ⟨w.heap.size + 1, 1, none⟩ = false := new_loose2 _ _ _ _ _ (by simp)
  have q2 : ((w.alloc (.cells #[.bool s, v, .int .i64 x] 34)).alloc (.cells #[.bool false, .slice none 0 0, .int .i64 0] 34)).cell? ⟨w.heap.size + 1, 2, none⟩ = some (.int .i64 0) := new_cell2 _ _ _ _ _ _ (by simp) rfl
  have qf2 : ((w.alloc (.cells #[.bool s, v, .int .i64 x] 34)).alloc (.cells #[.bool false, .slice none 0 0, .int .i64 0] 34)).frozen? ⟨w.heap.size + 1, 2, none⟩ = false := new_loose2 _ _ _ _ _ (by simp)
  replace r := r.kept k0 (by omega)
  have s0 : ((w.alloc (.cells #[.bool s, v, .int .i64 x] 34)).alloc (.cells #[.bool false, .slice none 0 0, .int .i64 0] 34)).heap.size = w.heap.size + 2 := by simp
  obtain ⟨a, c, hv⟩ := Row.form' r
  subst hv
  have K := hide (k0)
  clear k0
  have S0 := hide s0
  clear s0
  go_enter Tryd.func8, Tryd.ntmps8
  go_wp2_with fail
  generalize ((w.alloc (.cells #[.bool s, .slice a zs.length c, .int .i64 x] 34)).alloc (.cells #[.bool false, .slice none 0 0, .int .i64 0] 34)) = W at *
  refine (dok_spec s x hx1 hx0 _ r).mono ?_
  rintro e w1 ⟨rfl, k1⟩
  replace r := r.kept k1 (.inr (.inr (Nat.le_refl 0)))
  replace qf0 := k1.loose0 (World.block_lt_of_cell? _ _ q0) qf0
  replace qf1 := k1.loose0 (World.block_lt_of_cell? _ _ q1) qf1
  replace qf2 := k1.loose0 (World.block_lt_of_cell? _ _ q2) qf2
  replace p0 := k1.cell0 p0
  replace p1 := k1.cell0 p1
  replace p2 := k1.cell0 p2
  replace q0 := k1.cell0 q0
  replace q1 := k1.cell0 q1
  replace q2 := k1.cell0 q2
  replace K := hide ((unhide K).trans k1)
  have z2 := k1.size
  clear k1
  cases ho : dokB s zs x
  · have HC : Hid ((dokB s zs x && mayR low mode) = false) := by show _ = _; rw [ho]; rfl
    have HF : Hid (GS = false ∧ GL = [] ∧ GE = 0 ∧ GB = false ∧ GX = false) := by
      have hno : GB = false := by rw [← unhide HGB]; exact ansDB_no (unhide HC)
      have hno' := hno
      rw [← unhide HGB] at hno'
      obtain ⟨b1, b2, b3⟩ := ansD_no hno'
      exact ⟨by rw [← unhide HGS, b1], by rw [← unhide HGL, b2], by rw [← unhide HGE, b3], hno, by rw [← unhide HGX, unhide HC]; rfl⟩
    have KF := hide ((((unhide K).setNew (p := ⟨w.heap.size + 1, 0, none⟩) (by simp) (.bool false)).setNew (p := ⟨w.heap.size + 1, 1, none⟩) (by simp) (.slice none 0 0)).setNew (p := ⟨w.heap.size + 1, 2, none⟩) (by simp) (.int .i64 0))
    clear r K
    go_wp2_with fail
    exact bodyPost_ret (v := .tuple #[.agg #[.bool false, .slice none 0 0, .int .i64 0], .bool false, .bool false]) (by simp [results, Tryd.results8, go_sem, q0, q1, q2]) rfl ⟨_, by rw [(unhide HF).1, (unhide HF).2.2.1, (unhide HF).2.2.2.1, (unhide HF).2.2.2.2], by rw [(unhide HF).2.1]; exact Row.nil _ _ _ _ _, unhide KF⟩
  have HO := hide ho
  clear ho
  by_cases hl1 : low < -3000
  · have HC : Hid ((dokB s zs x && mayR low mode) = false) := by show _ = _; unfold mayR; rw [decide_eq_false (show ¬ -3000 ≤ low by omega)]; simp
    have HF : Hid (GS = false ∧ GL = [] ∧ GE = 0 ∧ GB = false ∧ GX = false) := by
      have hno : GB = false := by rw [← unhide HGB]; exact ansDB_no (unhide HC)
      have hno' := hno
      rw [← unhide HGB] at hno'
      obtain ⟨b1, b2, b3⟩ := ansD_no hno'
      exact ⟨by rw [← unhide HGS, b1], by rw [← unhide HGL, b2], by rw [← unhide HGE, b3], hno, by rw [← unhide HGX, unhide HC]; rfl⟩
    have KF := hide ((((unhide K).setNew (p := ⟨w.heap.size + 1, 0, none⟩) (by simp) (.bool false)).setNew (p := ⟨w.heap.size + 1, 1, none⟩) (by simp) (.slice none 0 0)).setNew (p := ⟨w.heap.size + 1, 2, none⟩) (by simp) (.int .i64 0))
    clear r K
    go_wp2_with fail
    exact bodyPost_ret (v := .tuple #[.agg #[.bool false, .slice none 0 0, .int .i64 0], .bool false, .bool false]) (by simp [results, Tryd.results8, go_sem, q0, q1, q2]) rfl ⟨_, by rw [(unhide HF).1, (unhide HF).2.2.1, (unhide HF).2.2.2.1, (unhide HF).2.2.2.2], by rw [(unhide HF).2.1]; exact Row.nil _ _ _ _ _, unhide KF⟩
  by_cases hl2 : 3000 < low
  · have HC : Hid ((dokB s zs x && mayR low mode) = false) := by show _ = _; unfold mayR; rw [decide_eq_false (show ¬ low ≤ 3000 by omega)]; simp
    have HF : Hid (GS = false ∧ GL = [] ∧ GE = 0 ∧ GB = false ∧ GX = false) := by
      have hno : GB = false := by rw [← unhide HGB]; exact ansDB_no (unhide HC)
      have hno' := hno
      rw [← unhide HGB] at hno'
      obtain ⟨b1, b2, b3⟩ := ansD_no hno'
      exact ⟨by rw [← unhide HGS, b1], by rw [← unhide HGL, b2], by rw [← unhide HGE, b3], hno, by rw [← unhide HGX, unhide HC]; rfl⟩
    have KF := hide ((((unhide K).setNew (p := ⟨w.heap.size + 1, 0, none⟩) (by simp) (.bool false)).setNew (p := ⟨w.heap.size + 1, 1, none⟩) (by simp) (.slice none 0 0)).setNew (p := ⟨w.heap.size + 1, 2, none⟩) (by simp) (.int .i64 0))
    clear r K
    go_wp2_with fail
    exact bodyPost_ret (v := .tuple #[.agg #[.bool false, .slice none 0 0, .int .i64 0], .bool false, .bool false]) (by simp [results, Tryd.results8, go_sem, q0, q1, q2]) rfl ⟨_, by rw [(unhide HF).1, (unhide HF).2.2.1, (unhide HF).2.2.2.1, (unhide HF).2.2.2.2], by rw [(unhide HF).2.1]; exact Row.nil _ _ _ _ _, unhide KF⟩
  go_wp2_with fail
  refine (mode_spec mode _).mono ?_
  rintro e w5 ⟨rfl, rfl⟩
  cases hm : modeB mode
  · have HC : Hid ((dokB s zs x && mayR low mode) = false) := by show _ = _; unfold mayR; rw [hm]; simp
    have HF : Hid (GS = false ∧ GL = [] ∧ GE = 0 ∧ GB = false ∧ GX = false) := by
      have hno : GB = false := by rw [← unhide HGB]; exact ansDB_no (unhide HC)
      have hno' := hno
      rw [← unhide HGB] at hno'
      obtain ⟨b1, b2, b3⟩ := ansD_no hno'
      exact ⟨by rw [← unhide HGS, b1], by rw [← unhide HGL, b2], by rw [← unhide HGE, b3], hno, by rw [← unhide HGX, unhide HC]; rfl⟩
    have KF := hide ((((unhide K).setNew (p := ⟨w.heap.size + 1, 0, none⟩) (by simp) (.bool false)).setNew (p := ⟨w.heap.size + 1, 1, none⟩) (by simp) (.slice none 0 0)).setNew (p := ⟨w.heap.size + 1, 2, none⟩) (by simp) (.int .i64 0))
    clear r K
    go_wp2_with fail
    exact bodyPost_ret (v := .tuple #[.agg #[.bool false, .slice none 0 0, .int .i64 0], .bool false, .bool false]) (by simp [results, Tryd.results8, go_sem, q0, q1, q2]) rfl ⟨_, by rw [(unhide HF).1, (unhide HF).2.2.1, (unhide HF).2.2.2.1, (unhide HF).2.2.2.2], by rw [(unhide HF).2.1]; exact Row.nil _ _ _ _ _, unhide KF⟩
  have HC : Hid ((dokB s zs x && mayR low mode) = true) := by show _ = _; rw [unhide HO]; unfold mayR; rw [hm, decide_eq_true (show -3000 ≤ low by omega), decide_eq_true (show low ≤ 3000 by omega)]; rfl
  obtain ⟨h1, h2, h3, h4, h5⟩ := dok_parts (unhide HO)
  have wn := wok_wn h1
  obtain ⟨-, -, hl, hn⟩ := wok_int h1
  have hmm := mayR_iff (show mayR low mode = true by have h := unhide HC; rw [unhide HO, Bool.true_and] at h; exact h)
  go_wp2_with fail
  have mr := round4_spec s x low (by omega) (by omega) (by omega) (by omega) w5 r wn h5 h4 (by omega) mode (by omega) (by omega)
  obtain ⟨M, hM⟩ : ∃ y, rndM mode.toNat s (val zs).toNat (x - (low - 1)) = y := ⟨_, rfl⟩
  obtain ⟨RX, hRX⟩ : ∃ y, rndX (scN (val zs).toNat (x - (low - 1))) (scL (val zs).toNat (x - (low - 1))) = y := ⟨_, rfl⟩
  rw [hM, hRX] at mr
  have gX : RX = true → GB = true := fun e => by rw [← unhide HGB, unhide HC]; exact rnd_told (unhide HO) mode.toNat (by rw [hRX]; exact e)
  have gE : GX = RX := by rw [← unhide HGX, unhide HC, hRX, Bool.true_and]
  have HM := hide hM
  clear hRX
  refine (mr).mono ?_
  rintro e w3 ⟨v6, rfl, r6, k3⟩
  replace r := r.kept k3 (.inr (.inr (Nat.le_refl 0)))
  replace qf0 := k3.loose0 (World.block_lt_of_cell? _ _ q0) qf0
  replace qf1 := k3.loose0 (World.block_lt_of_cell? _ _ q1) qf1
  replace qf2 := k3.loose0 (World.block_lt_of_cell? _ _ q2) qf2
  replace p0 := k3.cell0 p0
  replace p1 := k3.cell0 p1
  replace p2 := k3.cell0 p2
  replace q0 := k3.cell0 q0
  replace q1 := k3.cell0 q1
  replace q2 := k3.cell0 q2
  replace K := hide ((unhide K).trans k3)
  have z4 := k3.size
  clear k3
  clear mr
  clear r
  have hMa : M.natAbs < 2 ^ (16 * 2000) := by
    rw [← hM]
    unfold rndM
    rw [wval_abs (limbs_lim _), limbs_val, Int.toNat_natCast]
    have e1 := scN_len hn.1 (x - (low - 1)) 1000 (by omega)
    have e2 := rndN_len mode.toNat s (scN (val zs).toNat (x - (low - 1))) (scL (val zs).toNat (x - (low - 1)))
    have e3 : (limbs (rndN mode.toNat s (scN (val zs).toNat (x - (low - 1))) (scL (val zs).toNat (x - (low - 1))))).length ≤ 2000 := by omega
    have e4 := (limbs_length_le _ _).1 e3
    rw [pow_limb] at e4
    exact_mod_cast e4
  clear hM
  have rg := dex_range M low (by omega) (by omega) hMa (by omega)
  clear hMa
  obtain ⟨y1, y2, y3, y4⟩ := fits_ans (unhide HC) M low
  have hgs := unhide HGS
  have hgl := unhide HGL
  have hge := unhide HGE
  have hgb := unhide HGB
  rw [unhide HM] at hgs hgl hge hgb
  rw [hgs] at y1
  rw [hge] at y2
  rw [hgb] at y3
  rw [hgl] at y4
  have af : GB = true → Lim GL ∧ limbs (val GL).toNat = GL ∧ (GS && decide (0 < GL.length)) = GS := fun h => by have := ans_form (hgb.trans h); rw [hgs, hgl] at this; exact this
  clear hgs hgl hge hgb
  obtain ⟨a6, c6, hv⟩ := Row.form' r6
  subst hv
  obtain ⟨sM, hsM⟩ : ∃ y, wsg M = y := ⟨_, rfl⟩
  obtain ⟨zM, hzM⟩ : ∃ y, dlm M = y := ⟨_, rfl⟩
  obtain ⟨eM, heM⟩ : ∃ y, dex M low = y := ⟨_, rfl⟩
  rw [hsM, heM]
  rw [hzM] at r6
  rw [hsM, hzM, heM] at y1 y2 y3 y4
  rw [heM] at rg
  simp only [hzM] at *
  clear hsM hzM heM HM
  subst gE
  have kn := (Kept.refl 0 0 w3).alloc (.cells #[.bool sM, .slice a6 zM.length c6, .int .i64 eM] 34)
  have t0 : (w3.alloc (.cells #[.bool sM, .slice a6 zM.length c6, .int .i64 eM] 34)).cell? ⟨w3.heap.size, 0, none⟩ = some (.bool sM) := new_cell2 _ _ _ _ _ _ (by simp) rfl
  have t1 : (w3.alloc (.cells #[.bool sM, .slice a6 zM.length c6, .int .i64 eM] 34)).cell? ⟨w3.heap.size, 1, none⟩ = some (.slice a6 zM.length c6) := new_cell2 _ _ _ _ _ _ (by simp) rfl
  have t2 : (w3.alloc (.cells #[.bool sM, .slice a6 zM.length c6, .int .i64 eM] 34)).cell? ⟨w3.heap.size, 2, none⟩ = some (.int .i64 eM) := new_cell2 _ _ _ _ _ _ (by simp) rfl
  have sz5 : w3.heap.size + 1 ≤ (w3.alloc (.cells #[.bool sM, .slice a6 zM.length c6, .int .i64 eM] 34)).heap.size := by simp
  replace r6 := r6.kept kn (.inr (.inr (Nat.le_refl 0)))
  replace qf0 := kn.loose0 (World.block_lt_of_cell? _ _ q0) qf0
  replace qf1 := kn.loose0 (World.block_lt_of_cell? _ _ q1) qf1
  replace qf2 := kn.loose0 (World.block_lt_of_cell? _ _ q2) qf2
  replace p0 := kn.cell0 p0
  replace p1 := kn.cell0 p1
  replace p2 := kn.cell0 p2
  replace q0 := kn.cell0 q0
  replace q1 := kn.cell0 q1
  replace q2 := kn.cell0 q2
  replace K := hide ((unhide K).trans kn)
  have z6 := kn.size
  clear kn
  go_wp2_with fail
  generalize (w3.alloc (.cells #[.bool sM, .slice a6 zM.length c6, .int .i64 eM] 34)) = wn7 at *
  have mk := fits4_spec sM eM rg.1 rg.2 wn7 r6
  rw [y4, y1, y2, y3] at mk
  clear y1 y2 y3 y4 rg
  refine (mk).mono ?_
  rintro e w8 ⟨v8, rfl, r8, k8⟩
  replace r6 := r6.kept k8 (.inr (.inr (Nat.le_refl 0)))
  replace qf0 := k8.loose0 (World.block_lt_of_cell? _ _ q0) qf0
  replace qf1 := k8.loose0 (World.block_lt_of_cell? _ _ q1) qf1
  replace qf2 := k8.loose0 (World.block_lt_of_cell? _ _ q2) qf2
  replace p0 := k8.cell0 p0
  replace p1 := k8.cell0 p1
  replace p2 := k8.cell0 p2
  replace q0 := k8.cell0 q0
  replace q1 := k8.cell0 q1
  replace q2 := k8.cell0 q2
  replace t0 := k8.cell0 t0
  replace t1 := k8.cell0 t1
  replace t2 := k8.cell0 t2
  replace K := hide ((unhide K).trans k8)
  have z9 := k8.size
  clear k8
  clear mk
  obtain ⟨a8, c8, hv⟩ := Row.form' r8
  subst hv
  clear r6
  cases GB
  · have kn := (Kept.refl 0 0 w8).alloc (.cells #[.bool GS, .slice a8 GL.length c8, .int .i64 GE] 34)
    have u0 : (w8.alloc (.cells #[.bool GS, .slice a8 GL.length c8, .int .i64 GE] 34)).cell? ⟨w8.heap.size, 0, none⟩ = some (.bool GS) := new_cell2 _ _ _ _ _ _ (by simp) rfl
    have u1 : (w8.alloc (.cells #[.bool GS, .slice a8 GL.length c8, .int .i64 GE] 34)).cell? ⟨w8.heap.size, 1, none⟩ = some (.slice a8 GL.length c8) := new_cell2 _ _ _ _ _ _ (by simp) rfl
    have u2 : (w8.alloc (.cells #[.bool GS, .slice a8 GL.length c8, .int .i64 GE] 34)).cell? ⟨w8.heap.size, 2, none⟩ = some (.int .i64 GE) := new_cell2 _ _ _ _ _ _ (by simp) rfl
    have sz10 : w8.heap.size + 1 ≤ (w8.alloc (.cells #[.bool GS, .slice a8 GL.length c8, .int .i64 GE] 34)).heap.size := by simp
    replace r8 := r8.kept kn (.inr (.inr (Nat.le_refl 0)))
    replace qf0 := kn.loose0 (World.block_lt_of_cell? _ _ q0) qf0
    replace qf1 := kn.loose0 (World.block_lt_of_cell? _ _ q1) qf1
    replace qf2 := kn.loose0 (World.block_lt_of_cell? _ _ q2) qf2
    replace p0 := kn.cell0 p0
    replace p1 := kn.cell0 p1
    replace p2 := kn.cell0 p2
    replace q0 := kn.cell0 q0
    replace q1 := kn.cell0 q1
    replace q2 := kn.cell0 q2
    replace t0 := kn.cell0 t0
    replace t1 := kn.cell0 t1
    replace t2 := kn.cell0 t2
    replace K := hide ((unhide K).trans kn)
    have z11 := kn.size
    clear kn
    go_wp2_with fail
    generalize (w8.alloc (.cells #[.bool GS, .slice a8 GL.length c8, .int .i64 GE] 34)) = wn12 at *
    have HF : Hid (GS = false ∧ GL = [] ∧ GE = 0 ∧ GX = false) := by
      obtain ⟨b1, b2, b3⟩ := ansD_no (unhide HGB)
      refine ⟨by rw [← unhide HGS, b1], by rw [← unhide HGL, b2], by rw [← unhide HGE, b3], ?_⟩
      cases hr : GX
      · rfl
      · exact absurd (gX hr) (by decide)
    clear gX af
    have KF := hide ((((unhide K).setNew (p := ⟨w.heap.size + 1, 0, none⟩) (by simp) (.bool false)).setNew (p := ⟨w.heap.size + 1, 1, none⟩) (by simp) (.slice none 0 0)).setNew (p := ⟨w.heap.size + 1, 2, none⟩) (by simp) (.int .i64 0))
    clear r8 K
    go_wp2_with fail
    exact bodyPost_ret (v := .tuple #[.agg #[.bool false, .slice none 0 0, .int .i64 0], .bool false, .bool false]) (by simp [results, Tryd.results8, go_sem, q0, q1, q2]) rfl ⟨_, by rw [(unhide HF).1, (unhide HF).2.2.1, (unhide HF).2.2.2], by rw [(unhide HF).2.1]; exact Row.nil _ _ _ _ _, unhide KF⟩
  have kn := (Kept.refl 0 0 w8).alloc (.cells #[.bool GS, .slice a8 GL.length c8, .int .i64 GE] 34)
  have u0 : (w8.alloc (.cells #[.bool GS, .slice a8 GL.length c8, .int .i64 GE] 34)).cell? ⟨w8.heap.size, 0, none⟩ = some (.bool GS) := new_cell2 _ _ _ _ _ _ (by simp) rfl
  have u1 : (w8.alloc (.cells #[.bool GS, .slice a8 GL.length c8, .int .i64 GE] 34)).cell? ⟨w8.heap.size, 1, none⟩ = some (.slice a8 GL.length c8) := new_cell2 _ _ _ _ _ _ (by simp) rfl
  have u2 : (w8.alloc (.cells #[.bool GS, .slice a8 GL.length c8, .int .i64 GE] 34)).cell? ⟨w8.heap.size, 2, none⟩ = some (.int .i64 GE) := new_cell2 _ _ _ _ _ _ (by simp) rfl
  have sz10 : w8.heap.size + 1 ≤ (w8.alloc (.cells #[.bool GS, .slice a8 GL.length c8, .int .i64 GE] 34)).heap.size := by simp
  replace r8 := r8.kept kn (.inr (.inr (Nat.le_refl 0)))
  replace qf0 := kn.loose0 (World.block_lt_of_cell? _ _ q0) qf0
  replace qf1 := kn.loose0 (World.block_lt_of_cell? _ _ q1) qf1
  replace qf2 := kn.loose0 (World.block_lt_of_cell? _ _ q2) qf2
  replace p0 := kn.cell0 p0
  replace p1 := kn.cell0 p1
  replace p2 := kn.cell0 p2
  replace q0 := kn.cell0 q0
  replace q1 := kn.cell0 q1
  replace q2 := kn.cell0 q2
  replace t0 := kn.cell0 t0
  replace t1 := kn.cell0 t1
  replace t2 := kn.cell0 t2
  replace K := hide ((unhide K).trans kn)
  have z11 := kn.size
  clear kn
  go_wp2_with fail
  generalize (w8.alloc (.cells #[.bool GS, .slice a8 GL.length c8, .int .i64 GE] 34)) = wn12 at *
  obtain ⟨g0, g2, g1⟩ := af (by trivial)
  clear gX
  have gl : GL.length ≤ 100 := by rw [← unhide HGL]; exact ansDL_len _ _ _
  have n_qf0 := qf0
  have n_q0 := q0
  have n_qf1 := qf1
  have n_q1 := q1
  have n_qf2 := qf2
  have n_q2 := q2
  have kd := (Kept.refl 0 0 wn12).drew
  replace r8 := r8.kept kd (.inr (.inr (Nat.le_refl 0)))
  replace qf0 := kd.loose0 (World.block_lt_of_cell? _ _ q0) qf0
  replace qf1 := kd.loose0 (World.block_lt_of_cell? _ _ q1) qf1
  replace qf2 := kd.loose0 (World.block_lt_of_cell? _ _ q2) qf2
  replace p0 := kd.cell0 p0
  replace p1 := kd.cell0 p1
  replace p2 := kd.cell0 p2
  replace q0 := kd.cell0 q0
  replace q1 := kd.cell0 q1
  replace q2 := kd.cell0 q2
  replace t0 := kd.cell0 t0
  replace t1 := kd.cell0 t1
  replace t2 := kd.cell0 t2
  replace u0 := kd.cell0 u0
  replace u1 := kd.cell0 u1
  replace u2 := kd.cell0 u2
  replace K := hide ((unhide K).trans kd)
  have z13 := kd.size
  clear kd
  refine wp_region_held_drew (S := (fun w' => w'.cell? ⟨w8.heap.size, 0, none⟩ = some (.bool GS) ∧ w'.cell? ⟨w8.heap.size, 1, none⟩ = some (.slice a8 GL.length c8) ∧ w'.cell? ⟨w8.heap.size, 2, none⟩ = some (.int .i64 GE))) (by kernel_rfl) ?_ (fun hHeld => ?_)
  · exact ⟨u0, u1, u2⟩
  refine wpAnyH_take (i := 0) (oi := _) (v := .pointer (some ⟨w8.heap.size, 0, none⟩)) rfl (by kernel_rfl) (by kernel_rfl) (by kernel_rfl) (fun _ _ _ h => h) (Or.inl ⟨by rfl, ?_⟩) hHeld ?_
  · intro wq hSw
    try dsimp only at hSw
    go_simp
  try simp only [Act.put, List.getElem_toArray, List.getElem_cons_succ, List.getElem_cons_zero, List.setIfInBounds_toArray, List.set_cons_zero, List.set_cons_succ]
  refine wpAnyH_take (i := 1) (oi := _) (v := .pointer (some ⟨w8.heap.size, 0, none⟩)) rfl (by kernel_rfl) (by kernel_rfl) (by kernel_rfl) (fun _ _ _ h => h) (Or.inl ⟨by rfl, ?_⟩) hHeld ?_
  · intro wq hSw
    try dsimp only at hSw
    go_simp
  try simp only [Act.put, List.getElem_toArray, List.getElem_cons_succ, List.getElem_cons_zero, List.setIfInBounds_toArray, List.set_cons_zero, List.set_cons_succ]
  refine wpAnyH_take (i := 2) (oi := _) (v := .bool GS) rfl (by kernel_rfl) (by kernel_rfl) (by kernel_rfl) (fun _ _ _ h => h) (Or.inl ⟨by rfl, ?_⟩) hHeld ?_
  · intro wq hSw
    try dsimp only at hSw
    go_simp
  try simp only [Act.put, List.getElem_toArray, List.getElem_cons_succ, List.getElem_cons_zero, List.setIfInBounds_toArray, List.set_cons_zero, List.set_cons_succ]
  refine wpAnyH_take (i := 3) (oi := _) (v := .pointer (some ⟨w8.heap.size, 0, none⟩)) rfl (by kernel_rfl) (by kernel_rfl) (by kernel_rfl) (fun _ _ _ h => h) (Or.inl ⟨by rfl, ?_⟩) hHeld ?_
  · intro wq hSw
    try dsimp only at hSw
    go_simp
  try simp only [Act.put, List.getElem_toArray, List.getElem_cons_succ, List.getElem_cons_zero, List.setIfInBounds_toArray, List.set_cons_zero, List.set_cons_succ]
  refine wpAnyH_take (i := 4) (oi := _) (v := .pointer (some ⟨w8.heap.size, 1, none⟩)) rfl (by kernel_rfl) (by kernel_rfl) (by kernel_rfl) (fun _ _ _ h => h) (Or.inl ⟨by rfl, ?_⟩) hHeld ?_
  · intro wq hSw
    try dsimp only at hSw
    go_simp
  try simp only [Act.put, List.getElem_toArray, List.getElem_cons_succ, List.getElem_cons_zero, List.setIfInBounds_toArray, List.set_cons_zero, List.set_cons_succ]
  refine wpAnyH_take (i := 5) (oi := _) (v := .agg #[.slice a8 GL.length c8]) rfl (by kernel_rfl) (by kernel_rfl) (by kernel_rfl) (fun _ _ _ h => h) (Or.inl ⟨by rfl, ?_⟩) hHeld ?_
  · intro wq hSw
    try dsimp only at hSw
    go_simp
  try simp only [Act.put, List.getElem_toArray, List.getElem_cons_succ, List.getElem_cons_zero, List.setIfInBounds_toArray, List.set_cons_zero, List.set_cons_succ]
  refine wpAnyH_take (i := 7) (oi := _) (v := .pointer (some ⟨w8.heap.size, 2, none⟩)) rfl (by kernel_rfl) (by kernel_rfl) (by kernel_rfl) (fun _ _ _ h => h) (Or.inl ⟨by rfl, ?_⟩) hHeld ?_
  · intro wq hSw
    try dsimp only at hSw
    go_simp
  try simp only [Act.put, List.getElem_toArray, List.getElem_cons_succ, List.getElem_cons_zero, List.setIfInBounds_toArray, List.set_cons_zero, List.set_cons_succ]
  refine wpAnyH_take (i := 8) (oi := _) (v := .int .i64 GE) rfl (by kernel_rfl) (by kernel_rfl) (by kernel_rfl) (fun _ _ _ h => h) (Or.inl ⟨by rfl, ?_⟩) hHeld ?_
  · intro wq hSw
    try dsimp only at hSw
    go_simp
  try simp only [Act.put, List.getElem_toArray, List.getElem_cons_succ, List.getElem_cons_zero, List.setIfInBounds_toArray, List.set_cons_zero, List.set_cons_succ]
  refine wpAnyH_take (i := 10) (oi := _) (v := .bool GX) rfl (by kernel_rfl) (by kernel_rfl) (by kernel_rfl) (fun _ _ _ h => h) (Or.inl ⟨by rfl, ?_⟩) hHeld ?_
  · intro wq hSw
    try dsimp only at hSw
    go_simp
  try simp only [Act.put, List.getElem_toArray, List.getElem_cons_succ, List.getElem_cons_zero, List.setIfInBounds_toArray, List.set_cons_zero, List.set_cons_succ]
  refine wpAnyH_ready (rs := [6]) (by kernel_rfl) (by simp) ?_
  refine AllReadyH.cons rfl (fun KK hK => ?_) AllReadyH.nil
  simp only [List.getElem_toArray, List.getElem_cons_succ, List.getElem_cons_zero]
  rw [if_pos (by rfl)]
  refine wps2 30 (.tmp 47) (.tmp 50) _ rfl in_l3make_r (.bool GS) (.agg #[.slice a8 GL.length c8]) rfl rfl (make_spec GS _ r8 g0 (by omega)) ?_
  rintro e w14 ⟨v9, rfl, r9, k14⟩
  refine ⟨_, rfl, ?_⟩
  replace r8 := r8.kept k14 (.inr (.inr (Nat.le_refl 0)))
  replace qf0 := k14.loose0 (World.block_lt_of_cell? _ _ q0) qf0
  replace qf1 := k14.loose0 (World.block_lt_of_cell? _ _ q1) qf1
  replace qf2 := k14.loose0 (World.block_lt_of_cell? _ _ q2) qf2
  replace p0 := k14.cell0 p0
  replace p1 := k14.cell0 p1
  replace p2 := k14.cell0 p2
  replace q0 := k14.cell0 q0
  replace q1 := k14.cell0 q1
  replace q2 := k14.cell0 q2
  replace t0 := k14.cell0 t0
  replace t1 := k14.cell0 t1
  replace t2 := k14.cell0 t2
  replace u0 := k14.cell0 u0
  replace u1 := k14.cell0 u1
  replace u2 := k14.cell0 u2
  replace K := hide ((unhide K).trans k14)
  have z15 := k14.size
  clear k14
  clear hHeld
  refine hK.out _ _ ?_ (fun hHeld => ?_)
  · exact ⟨u0, u1, u2⟩
  clear hK KK
  try simp only [Act.put, List.getElem_toArray, List.getElem_cons_succ, List.getElem_cons_zero, List.setIfInBounds_toArray, List.set_cons_zero, List.set_cons_succ]
  rw [g2] at r9
  rw [g1]
  obtain ⟨a9, c9, hv⟩ := Row.form' r9
  subst hv
  refine wpAnyH_take (i := 9) (oi := _) (v := .agg #[.bool GS, .slice a9 GL.length c9, .int .i64 GE]) rfl (by kernel_rfl) (by kernel_rfl) (by kernel_rfl) (fun _ _ _ h => h) (Or.inl ⟨by rfl, ?_⟩) hHeld ?_
  · intro wq hSw
    try dsimp only at hSw
    go_simp
  try simp only [Act.put, List.getElem_toArray, List.getElem_cons_succ, List.getElem_cons_zero, List.setIfInBounds_toArray, List.set_cons_zero, List.set_cons_succ]
  refine wpAnyH_ready (rs := [11]) (by kernel_rfl) (by simp) ?_
  refine AllReadyH.cons rfl (fun KK hK => ?_) AllReadyH.nil
  simp only [List.getElem_toArray, List.getElem_cons_succ, List.getElem_cons_zero]
  rw [if_pos (by rfl)]
  go_simp
  clear hHeld
  refine hK.out _ _ ?_ (fun hHeld => ?_)
  · exact ⟨(cell_aside _ (by have := unhide S0; dsimp only; omega) (cell_aside _ (by have := unhide S0; dsimp only; omega) (cell_aside _ (by have := unhide S0; dsimp only; omega) u0))), (cell_aside _ (by have := unhide S0; dsimp only; omega) (cell_aside _ (by have := unhide S0; dsimp only; omega) (cell_aside _ (by have := unhide S0; dsimp only; omega) u1))), (cell_aside _ (by have := unhide S0; dsimp only; omega) (cell_aside _ (by have := unhide S0; dsimp only; omega) (cell_aside _ (by have := unhide S0; dsimp only; omega) u2)))⟩
  clear hK KK
  try simp only [Act.put, List.getElem_toArray, List.getElem_cons_succ, List.getElem_cons_zero, List.setIfInBounds_toArray, List.set_cons_zero, List.set_cons_succ]
  refine wpAnyH_take (i := 12) (oi := _) (v := .bool GX) rfl (by kernel_rfl) (by kernel_rfl) (by kernel_rfl) (fun _ _ _ h => h) (Or.inl ⟨by rfl, ?_⟩) hHeld ?_
  · intro wq hSw
    try dsimp only at hSw
    go_simp
  try simp only [Act.put, List.getElem_toArray, List.getElem_cons_succ, List.getElem_cons_zero, List.setIfInBounds_toArray, List.set_cons_zero, List.set_cons_succ]
  refine wpAnyH_take (i := 13) (oi := _) (v := .bool true) rfl (by kernel_rfl) (by kernel_rfl) (by kernel_rfl) (fun _ _ _ h => h) (Or.inl ⟨by rfl, ?_⟩) hHeld ?_
  · intro wq hSw
    try dsimp only at hSw
    go_simp
  try simp only [Act.put, List.getElem_toArray, List.getElem_cons_succ, List.getElem_cons_zero, List.setIfInBounds_toArray, List.set_cons_zero, List.set_cons_succ]
  refine wpAnyH_done (by kernel_rfl) ?_ _
  clear hHeld
  have R := hide ((((r9.set_other (p := ⟨w.heap.size + 1, 0, none⟩) (.inl (by have := unhide S0; dsimp only; omega)) (.bool GS)).set_other (p := ⟨w.heap.size + 1, 1, none⟩) (.inl (by have := unhide S0; dsimp only; omega)) (.slice a9 GL.length c9)).set_other (p := ⟨w.heap.size + 1, 2, none⟩) (.inl (by have := unhide S0; dsimp only; omega)) (.int .i64 GE)).tight.wider (lo' := w.heap.size) (by have := unhide S0; omega) (Nat.le_refl _))
  have K7 := hide ((((unhide K).setNew (p := ⟨w.heap.size + 1, 0, none⟩) (by simp) (.bool GS)).setNew (p := ⟨w.heap.size + 1, 1, none⟩) (by simp) (.slice a9 GL.length c9)).setNew (p := ⟨w.heap.size + 1, 2, none⟩) (by simp) (.int .i64 GE))
  clear r8 r9 K g0 g1 g2 wn hn
  go_wp2_with fail
  exact bodyPost_ret (v := .tuple #[.agg #[.bool GS, .slice a9 GL.length c9, .int .i64 GE], .bool GX, .bool true]) (by simp [results, Tryd.results8, go_sem, q0, q1, q2]) rfl ⟨_, rfl, unhide R, unhide K7⟩

set_option maxHeartbeats 4000000 in
theorem dround_impl {bw : Bool} {lo hi : Nat} {v : Value} {zs : List Int} (s : Bool) (x : Int) (hx1 : x ≤ 9223372036854775807) (hx0 : -9223372036854775808 ≤ x) (low mode : Int) (w : World) (r : Row .i64 bw lo hi w v zs) (T : TabB w) :
    Calls Tryd.prog 10 #[.agg #[.bool s, v, .int .i64 x], .int .i64 low, .int .i64 mode] w fun e w' => ∃ v', e = .returned (.tuple #[.agg #[.bool (ansDS (dokB s zs x && mayR low mode) (rndM mode.toNat s (val zs).toNat (x - (low - 1))) low), v', .int .i64 (ansDE (dokB s zs x && mayR low mode) (rndM mode.toNat s (val zs).toNat (x - (low - 1))) low)], .bool ((dokB s zs x && mayR low mode) && rndX (scN (val zs).toNat (x - (low - 1))) (scL (val zs).toNat (x - (low - 1)))), .bool (ansDB (dokB s zs x && mayR low mode) (rndM mode.toNat s (val zs).toNat (x - (low - 1))) low)]) ∧ Row .i64 true w.heap.size w'.heap.size w' v' (ansDL (dokB s zs x && mayR low mode) (rndM mode.toNat s (val zs).toNat (x - (low - 1))) low) ∧ Kept 0 0 w w' := by
  obtain ⟨GS, hGS⟩ : ∃ y, ansDS (dokB s zs x && mayR low mode) (rndM mode.toNat s (val zs).toNat (x - (low - 1))) (low) = y := ⟨_, rfl⟩
  obtain ⟨GL, hGL⟩ : ∃ y, ansDL (dokB s zs x && mayR low mode) (rndM mode.toNat s (val zs).toNat (x - (low - 1))) (low) = y := ⟨_, rfl⟩
  obtain ⟨GE, hGE⟩ : ∃ y, ansDE (dokB s zs x && mayR low mode) (rndM mode.toNat s (val zs).toNat (x - (low - 1))) (low) = y := ⟨_, rfl⟩
  obtain ⟨GB, hGB⟩ : ∃ y, ansDB (dokB s zs x && mayR low mode) (rndM mode.toNat s (val zs).toNat (x - (low - 1))) (low) = y := ⟨_, rfl⟩
  try rw [hGS]
  try rw [hGL]
  try rw [hGE]
  try rw [hGB]
  have HGS := hide hGS
  have HGL := hide hGL
  have HGE := hide hGE
  have HGB := hide hGB
  clear hGS hGL hGE hGB
  obtain ⟨GX, hGX⟩ : ∃ y, ((dokB s zs x && mayR low mode) && rndX (scN (val zs).toNat (x - (low - 1))) (scL (val zs).toNat (x - (low - 1)))) = y := ⟨_, rfl⟩
  rw [hGX]
  have HGX := hide hGX
  clear hGX
  have k0 : Kept 0 0 w ((w.alloc (.cells #[.bool s, v, .int .i64 x] 34)).alloc (.cells #[.bool false, .slice none 0 0, .int .i64 0] 34)) := (((Kept.refl 0 0 w).alloc (.cells #[.bool s, v, .int .i64 x] 34)).alloc (.cells #[.bool false, .slice none 0 0, .int .i64 0] 34))
  have p0 : ((w.alloc (.cells #[.bool s, v, .int .i64 x] 34)).alloc (.cells #[.bool false, .slice none 0 0, .int .i64 0] 34)).cell? ⟨w.heap.size, 0, none⟩ = some (.bool s) := old_cell _ (new_cell2 _ _ _ _ _ _ (by simp) rfl)
  have p1 : ((w.alloc (.cells #[.bool s, v, .int .i64 x] 34)).alloc (.cells #[.bool false, .slice none 0 0, .int .i64 0] 34)).cell? ⟨w.heap.size, 1, none⟩ = some (v) := old_cell _ (new_cell2 _ _ _ _ _ _ (by simp) rfl)
  have p2 : ((w.alloc (.cells #[.bool s, v, .int .i64 x] 34)).alloc (.cells #[.bool false, .slice none 0 0, .int .i64 0] 34)).cell? ⟨w.heap.size, 2, none⟩ = some (.int .i64 x) := old_cell _ (new_cell2 _ _ _ _ _ _ (by simp) rfl)
  have q0 : ((w.alloc (.cells #[.bool s, v, .int .i64 x] 34)).alloc (.cells #[.bool false, .slice none 0 0, .int .i64 0] 34)).cell? ⟨w.heap.size + 1, 0, none⟩ = some (.bool false) := new_cell2 _ _ _ _ _ _ (by simp) rfl
  have qf0 : ((w.alloc (.cells #[.bool s, v, .int .i64 x] 34)).alloc (.cells #[.bool false, .slice none 0 0, .int .i64 0] 34)).frozen? ⟨w.heap.size + 1, 0, none⟩ = false := new_loose2 _ _ _ _ _ (by simp)
  have q1 : ((w.alloc (.cells #[.bool s, v, .int .i64 x] 34)).alloc (.cells #[.bool false, .slice none 0 0, .int .i64 0] 34)).cell? ⟨w.heap.size + 1, 1, none⟩ = some (.slice none 0 0) := new_cell2 _ _ _ _ _ _ (by simp) rfl
  have qf1 : ((w.alloc (.cells #[.bool s, v, .int .i64 x] 34)).alloc (.cells #[.bool false, .slice none 0 0, .int .i64 0] 34)).frozen? ⟨w.heap.size + 1, 1, none⟩ = false := new_loose2 _ _ _ _ _ (by simp)
  have q2 : ((w.alloc (.cells #[.bool s, v, .int .i64 x] 34)).alloc (.cells #[.bool false, .slice none 0 0, .int .i64 0] 34)).cell? ⟨w.heap.size + 1, 2, none⟩ = some (.int .i64 0) := new_cell2 _ _ _ _ _ _ (by simp) rfl
  have qf2 : ((w.alloc (.cells #[.bool s, v, .int .i64 x] 34)).alloc (.cells #[.bool false, .slice none 0 0, .int .i64 0] 34)).frozen? ⟨w.heap.size + 1, 2, none⟩ = false := new_loose2 _ _ _ _ _ (by simp)
  replace r := r.kept k0 (by omega)
  have s0 : ((w.alloc (.cells #[.bool s, v, .int .i64 x] 34)).alloc (.cells #[.bool false, .slice none 0 0, .int .i64 0] 34)).heap.size = w.heap.size + 2 := by simp
  obtain ⟨a, c, hv⟩ := Row.form' r
  subst hv
  have K := hide (k0)
  clear k0
  have S0 := hide s0
  clear s0
  go_enter Tryd.func10, Tryd.ntmps10
  go_wp2_with fail
  generalize ((w.alloc (.cells #[.bool s, .slice a zs.length c, .int .i64 x] 34)).alloc (.cells #[.bool false, .slice none 0 0, .int .i64 0] 34)) = W at *
  refine (dok_impl s x hx1 hx0 _ r).mono ?_
  rintro e w1 ⟨rfl, k1⟩
  replace r := r.kept k1 (.inr (.inr (Nat.le_refl 0)))
  replace qf0 := k1.loose0 (World.block_lt_of_cell? _ _ q0) qf0
  replace qf1 := k1.loose0 (World.block_lt_of_cell? _ _ q1) qf1
  replace qf2 := k1.loose0 (World.block_lt_of_cell? _ _ q2) qf2
  replace p0 := k1.cell0 p0
  replace p1 := k1.cell0 p1
  replace p2 := k1.cell0 p2
  replace q0 := k1.cell0 q0
  replace q1 := k1.cell0 q1
  replace q2 := k1.cell0 q2
  replace K := hide ((unhide K).trans k1)
  have z2 := k1.size
  clear k1
  cases ho : dokB s zs x
  · have HC : Hid ((dokB s zs x && mayR low mode) = false) := by show _ = _; rw [ho]; rfl
    have HF : Hid (GS = false ∧ GL = [] ∧ GE = 0 ∧ GB = false ∧ GX = false) := by
      have hno : GB = false := by rw [← unhide HGB]; exact ansDB_no (unhide HC)
      have hno' := hno
      rw [← unhide HGB] at hno'
      obtain ⟨b1, b2, b3⟩ := ansD_no hno'
      exact ⟨by rw [← unhide HGS, b1], by rw [← unhide HGL, b2], by rw [← unhide HGE, b3], hno, by rw [← unhide HGX, unhide HC]; rfl⟩
    have KF := hide ((((unhide K).setNew (p := ⟨w.heap.size + 1, 0, none⟩) (by simp) (.bool false)).setNew (p := ⟨w.heap.size + 1, 1, none⟩) (by simp) (.slice none 0 0)).setNew (p := ⟨w.heap.size + 1, 2, none⟩) (by simp) (.int .i64 0))
    clear r K
    go_wp2_with fail
    exact bodyPost_ret (v := .tuple #[.agg #[.bool false, .slice none 0 0, .int .i64 0], .bool false, .bool false]) (by simp [results, Tryd.results10, go_sem, q0, q1, q2]) rfl ⟨_, by rw [(unhide HF).1, (unhide HF).2.2.1, (unhide HF).2.2.2.1, (unhide HF).2.2.2.2], by rw [(unhide HF).2.1]; exact Row.nil _ _ _ _ _, unhide KF⟩
  have HO := hide ho
  clear ho
  go_wp2_with fail
  refine (mayRound_impl low mode _).mono ?_
  rintro e w5 ⟨rfl, rfl⟩
  cases hk : mayR low mode
  · have HC : Hid ((dokB s zs x && mayR low mode) = false) := by show _ = _; rw [hk]; simp
    have HF : Hid (GS = false ∧ GL = [] ∧ GE = 0 ∧ GB = false ∧ GX = false) := by
      have hno : GB = false := by rw [← unhide HGB]; exact ansDB_no (unhide HC)
      have hno' := hno
      rw [← unhide HGB] at hno'
      obtain ⟨b1, b2, b3⟩ := ansD_no hno'
      exact ⟨by rw [← unhide HGS, b1], by rw [← unhide HGL, b2], by rw [← unhide HGE, b3], hno, by rw [← unhide HGX, unhide HC]; rfl⟩
    have KF := hide ((((unhide K).setNew (p := ⟨w.heap.size + 1, 0, none⟩) (by simp) (.bool false)).setNew (p := ⟨w.heap.size + 1, 1, none⟩) (by simp) (.slice none 0 0)).setNew (p := ⟨w.heap.size + 1, 2, none⟩) (by simp) (.int .i64 0))
    clear r K
    go_wp2_with fail
    exact bodyPost_ret (v := .tuple #[.agg #[.bool false, .slice none 0 0, .int .i64 0], .bool false, .bool false]) (by simp [results, Tryd.results10, go_sem, q0, q1, q2]) rfl ⟨_, by rw [(unhide HF).1, (unhide HF).2.2.1, (unhide HF).2.2.2.1, (unhide HF).2.2.2.2], by rw [(unhide HF).2.1]; exact Row.nil _ _ _ _ _, unhide KF⟩
  have HC : Hid ((dokB s zs x && mayR low mode) = true) := by show _ = _; rw [unhide HO, hk]; rfl
  obtain ⟨h1, h2, h3, h4, h5⟩ := dok_parts (unhide HO)
  have wn := wok_wn h1
  obtain ⟨-, -, hl, hn⟩ := wok_int h1
  have hmm := mayR_iff hk
  clear hk h1
  go_wp2_with fail
  refine (dyadicOf_impl s x _ r (by omega)).mono ?_
  rintro e w3 ⟨v3, rfl, o3, k3⟩
  replace r := r.kept k3 (.inr (.inr (Nat.le_refl 0)))
  replace qf0 := k3.loose0 (World.block_lt_of_cell? _ _ q0) qf0
  replace qf1 := k3.loose0 (World.block_lt_of_cell? _ _ q1) qf1
  replace qf2 := k3.loose0 (World.block_lt_of_cell? _ _ q2) qf2
  replace p0 := k3.cell0 p0
  replace p1 := k3.cell0 p1
  replace p2 := k3.cell0 p2
  replace q0 := k3.cell0 q0
  replace q1 := k3.cell0 q1
  replace q2 := k3.cell0 q2
  replace K := hide ((unhide K).trans k3)
  have z4 := k3.size
  clear k3
  clear r
  have l3 := o3.lt
  obtain ⟨nd, dd, ee⟩ := new_dya s x 70 o3
  have kn := (Kept.refl 0 0 w3).alloc (.cells #[v3, .bool s, .int .i64 x] 70)
  obtain ⟨a3, c3, hv⟩ := own_slice o3
  subst hv
  replace qf0 := kn.loose0 (World.block_lt_of_cell? _ _ q0) qf0
  replace qf1 := kn.loose0 (World.block_lt_of_cell? _ _ q1) qf1
  replace qf2 := kn.loose0 (World.block_lt_of_cell? _ _ q2) qf2
  replace p0 := kn.cell0 p0
  replace p1 := kn.cell0 p1
  replace p2 := kn.cell0 p2
  replace q0 := kn.cell0 q0
  replace q1 := kn.cell0 q1
  replace q2 := kn.cell0 q2
  replace K := hide ((unhide K).trans kn)
  have z5 := kn.size
  clear kn o3
  skip
  go_wp2_with fail
  generalize w3.alloc (.cells #[.slice a3 zs.length c3, .bool s, .int .i64 x] 70) = W9 at *
  obtain ⟨M, hM⟩ : ∃ y, rndM mode.toNat s (val zs).toNat (x - (low - 1)) = y := ⟨_, rfl⟩
  obtain ⟨RX, hRX⟩ : ∃ y, rndX (scN (val zs).toNat (x - (low - 1))) (scL (val zs).toNat (x - (low - 1))) = y := ⟨_, rfl⟩
  have gE : GX = RX := by rw [← unhide HGX, unhide HC, hRX, Bool.true_and]
  subst gE
  obtain ⟨H, hH⟩ : ∃ y, scN (val zs).toNat (x - (low - 1)) = y := ⟨_, rfl⟩
  obtain ⟨L, hL⟩ : ∃ y, scL (val zs).toNat (x - (low - 1)) = y := ⟨_, rfl⟩
  have nH : (limbs H).length ≤ 2000 := by rw [← hH]; have := scN_len hn.1 (x - (low - 1)) 1000 (by omega); omega
  have hRX2 : rndX H L = GX := by rw [← hH, ← hL]; exact hRX
  have hM2 : wval s (limbs (rndN mode.toNat s H L)) = M := by rw [← hH, ← hL]; exact hM
  have hgs := unhide HGS
  have hgl := unhide HGL
  have hge := unhide HGE
  have hgb := unhide HGB
  rw [hM, unhide HC] at hgs hgl hge hgb
  clear hM hRX
  have mc := cut_impl _ nd dd ee hn (by omega) (by have := unhide S0; omega) low (by omega) (by omega) (by omega) (by omega) (T.kept (unhide K))
  rw [hH, hL] at mc
  clear hH hL HGX
  refine mc.mono ?_
  rintro e w6 ⟨u6, rfl, o6, m6⟩
  clear mc
  have hS : ∀ i, (Value.slice a3 zs.length c3).ownBlock = some i → w.heap.size + 2 ≤ i := fun i e => by have := (l3 _ e).1; have := unhide S0; omega
  have nS : ¬ (Value.slice a3 zs.length c3).ownBlock = some (w.heap.size + 1) := fun e => by have := hS _ e; omega
  replace qf0 := m6.loose (a := ⟨w.heap.size + 1, 0, none⟩) nS (World.block_lt_of_cell? _ _ q0) qf0
  replace qf1 := m6.loose (a := ⟨w.heap.size + 1, 1, none⟩) nS (World.block_lt_of_cell? _ _ q1) qf1
  replace qf2 := m6.loose (a := ⟨w.heap.size + 1, 2, none⟩) nS (World.block_lt_of_cell? _ _ q2) qf2
  replace q0 := m6.cell (a := ⟨w.heap.size + 1, 0, none⟩) nS q0
  replace q1 := m6.cell (a := ⟨w.heap.size + 1, 1, none⟩) nS q1
  replace q2 := m6.cell (a := ⟨w.heap.size + 1, 2, none⟩) nS q2
  replace K := hide ((unhide K).mod m6 (fun i e => by have := hS i e; omega))
  have z6 := m6.size
  clear m6 hS nS nd dd ee p0 p1 p2
  obtain ⟨a6, c6, hv⟩ := Row.form' o6.row
  subst hv
  have l6 := fun i (e : (Value.slice a6 (limbs H).length c6).ownBlock = some i) => o6.lt e
  obtain ⟨n7, d7, e7, m7⟩ := new_half s low L 73 o6
  have kn := (Kept.refl 0 0 w6).alloc (.cells #[.slice a6 (limbs H).length c6, .bool s, .int .i64 low, .bool L] 73)
  have z7 : (w6.alloc (.cells #[.slice a6 (limbs H).length c6, .bool s, .int .i64 low, .bool L] 73)).heap.size = w6.heap.size + 1 := by simp
  replace qf0 := kn.loose0 (World.block_lt_of_cell? _ _ q0) qf0
  replace qf1 := kn.loose0 (World.block_lt_of_cell? _ _ q1) qf1
  replace qf2 := kn.loose0 (World.block_lt_of_cell? _ _ q2) qf2
  replace q0 := kn.cell0 q0
  replace q1 := kn.cell0 q1
  replace q2 := kn.cell0 q2
  replace K := hide ((unhide K).trans kn)
  have z6 := kn.size
  clear kn o6
  go_wp2_with fail
  generalize w6.alloc (.cells #[.slice a6 (limbs H).length c6, .bool s, .int .i64 low, .bool L] 73) = W7 at *
  have hx := isExact_impl _ n7.work (limbs_lim _) m7
  rw [limbs_val, Int.toNat_natCast] at hx
  have hx2 : (decide (H % 2 = 0) && !L) = GX := hRX2
  rw [hx2] at hx
  refine hx.mono ?_
  rintro e w8 ⟨rfl, rfl⟩
  clear hx hx2 hRX2
  go_wp2_with fail
  have hr := rounded_impl _ n7 (limbs_nrm _) (by omega) d7 e7 m7 (by have := unhide S0; omega) mode (by omega) (by omega)
  rw [limbs_val, Int.toNat_natCast] at hr
  obtain ⟨R, hR⟩ : ∃ y, rndN mode.toNat s H L = y := ⟨_, rfl⟩
  rw [hR] at hr
  have nR : (limbs R).length ≤ 2001 := by rw [← hR]; have := rndN_len mode.toNat s H L; omega
  rw [hR] at hM2
  clear hR
  refine hr.mono ?_
  rintro e w9 ⟨u9, rfl, o9, m9⟩
  clear hr
  have hS : ∀ i, Own1 w6.heap.size (.slice a6 (limbs H).length c6) i → w.heap.size + 2 ≤ i := fun i e => e.elim (fun e => by have := unhide S0; omega) (fun e => by have := (l6 _ e).1; have := unhide S0; omega)
  have nS : ¬ Own1 w6.heap.size (.slice a6 (limbs H).length c6) (w.heap.size + 1) := fun e => by have := hS _ e; omega
  replace qf0 := m9.loose (a := ⟨w.heap.size + 1, 0, none⟩) nS (World.block_lt_of_cell? _ _ q0) qf0
  replace qf1 := m9.loose (a := ⟨w.heap.size + 1, 1, none⟩) nS (World.block_lt_of_cell? _ _ q1) qf1
  replace qf2 := m9.loose (a := ⟨w.heap.size + 1, 2, none⟩) nS (World.block_lt_of_cell? _ _ q2) qf2
  replace q0 := m9.cell (a := ⟨w.heap.size + 1, 0, none⟩) nS q0
  replace q1 := m9.cell (a := ⟨w.heap.size + 1, 1, none⟩) nS q1
  replace q2 := m9.cell (a := ⟨w.heap.size + 1, 2, none⟩) nS q2
  replace K := hide ((unhide K).mod m9 (fun i e => by have := hS i e; omega))
  have z9 := m9.size
  clear m9 hS nS n7 d7 e7 m7 l6
  obtain ⟨a9, c9, hv⟩ := Row.form' o9.row
  subst hv
  have l9 := fun i (e : (Value.slice a9 (limbs R).length c9).ownBlock = some i) => o9.lt e
  obtain ⟨nA, dA, eA⟩ := new_dyaA s low 70 o9
  have kn := (Kept.refl 0 0 w9).alloc (.cells #[.slice a9 (limbs R).length c9, .bool s, .int .i64 low] 70)
  have zA : (w9.alloc (.cells #[.slice a9 (limbs R).length c9, .bool s, .int .i64 low] 70)).heap.size = w9.heap.size + 1 := by simp
  replace qf0 := kn.loose0 (World.block_lt_of_cell? _ _ q0) qf0
  replace qf1 := kn.loose0 (World.block_lt_of_cell? _ _ q1) qf1
  replace qf2 := kn.loose0 (World.block_lt_of_cell? _ _ q2) qf2
  replace q0 := kn.cell0 q0
  replace q1 := kn.cell0 q1
  replace q2 := kn.cell0 q2
  replace K := hide ((unhide K).trans kn)
  have z7 := kn.size
  clear kn o9
  go_wp2_with fail
  generalize w9.alloc (.cells #[.slice a9 (limbs R).length c9, .bool s, .int .i64 low] 70) = WA at *
  have ht := toldDyadic_wrk M hM2 _ nA dA eA (limbs_nrm _) (by omega) (by omega) (by omega) (T.kept (unhide K))
  rw [hgs, hgl, hge, hgb] at ht
  refine ht.mono ?_
  rintro e wB ⟨v7, rfl, r7, mB⟩
  clear ht hgs hgl hge hgb hM2
  have hS : ∀ i, Own1 w9.heap.size (.slice a9 (limbs R).length c9) i → w.heap.size + 2 ≤ i := fun i e => e.elim (fun e => by have := unhide S0; omega) (fun e => by have := (l9 _ e).1; have := unhide S0; omega)
  have nS : ¬ Own1 w9.heap.size (.slice a9 (limbs R).length c9) (w.heap.size + 1) := fun e => by have := hS _ e; omega
  replace qf0 := mB.loose (a := ⟨w.heap.size + 1, 0, none⟩) nS (World.block_lt_of_cell? _ _ q0) qf0
  replace qf1 := mB.loose (a := ⟨w.heap.size + 1, 1, none⟩) nS (World.block_lt_of_cell? _ _ q1) qf1
  replace qf2 := mB.loose (a := ⟨w.heap.size + 1, 2, none⟩) nS (World.block_lt_of_cell? _ _ q2) qf2
  replace q0 := mB.cell (a := ⟨w.heap.size + 1, 0, none⟩) nS q0
  replace q1 := mB.cell (a := ⟨w.heap.size + 1, 1, none⟩) nS q1
  replace q2 := mB.cell (a := ⟨w.heap.size + 1, 2, none⟩) nS q2
  replace K := hide ((unhide K).mod mB (fun i e => by have := hS i e; omega))
  have zB := mB.size
  clear mB hS nS nA dA eA l9 nR nH wn hn
  obtain ⟨a7, c7, hv⟩ := Row.form' r7
  subst hv
  have kn := (Kept.refl 0 0 wB).alloc (.cells #[.bool GS, .slice a7 GL.length c7, .int .i64 GE] 34)
  have y0 : (wB.alloc (.cells #[.bool GS, .slice a7 GL.length c7, .int .i64 GE] 34)).cell? ⟨wB.heap.size, 0, none⟩ = some (.bool GS) := new_cell2 _ _ _ _ _ _ (by simp) rfl
  have y1 : (wB.alloc (.cells #[.bool GS, .slice a7 GL.length c7, .int .i64 GE] 34)).cell? ⟨wB.heap.size, 1, none⟩ = some (.slice a7 GL.length c7) := new_cell2 _ _ _ _ _ _ (by simp) rfl
  have y2 : (wB.alloc (.cells #[.bool GS, .slice a7 GL.length c7, .int .i64 GE] 34)).cell? ⟨wB.heap.size, 2, none⟩ = some (.int .i64 GE) := new_cell2 _ _ _ _ _ _ (by simp) rfl
  have sz8 : wB.heap.size + 1 ≤ (wB.alloc (.cells #[.bool GS, .slice a7 GL.length c7, .int .i64 GE] 34)).heap.size := by simp
  replace r7 := r7.kept kn (.inr (.inr (Nat.le_refl 0)))
  replace qf0 := kn.loose0 (World.block_lt_of_cell? _ _ q0) qf0
  replace qf1 := kn.loose0 (World.block_lt_of_cell? _ _ q1) qf1
  replace qf2 := kn.loose0 (World.block_lt_of_cell? _ _ q2) qf2
  replace q0 := kn.cell0 q0
  replace q1 := kn.cell0 q1
  replace q2 := kn.cell0 q2
  replace K := hide ((unhide K).trans kn)
  have z9 := kn.size
  clear kn
  go_wp2_with fail
  generalize (wB.alloc (.cells #[.bool GS, .slice a7 GL.length c7, .int .i64 GE] 34)) = wn10 at *
  have R := hide ((((r7.set_other (p := ⟨w.heap.size + 1, 0, none⟩) (.inl (by have := unhide S0; dsimp only; omega)) (.bool GS)).set_other (p := ⟨w.heap.size + 1, 1, none⟩) (.inl (by have := unhide S0; dsimp only; omega)) (.slice a7 GL.length c7)).set_other (p := ⟨w.heap.size + 1, 2, none⟩) (.inl (by have := unhide S0; dsimp only; omega)) (.int .i64 GE)).tight.wider (lo' := w.heap.size) (by have := unhide S0; omega) (Nat.le_refl _))
  have K7 := hide ((((unhide K).setNew (p := ⟨w.heap.size + 1, 0, none⟩) (by simp) (.bool GS)).setNew (p := ⟨w.heap.size + 1, 1, none⟩) (by simp) (.slice a7 GL.length c7)).setNew (p := ⟨w.heap.size + 1, 2, none⟩) (by simp) (.int .i64 GE))
  clear r7 K 
  go_wp2_with fail
  exact bodyPost_ret (v := .tuple #[.agg #[.bool GS, .slice a7 GL.length c7, .int .i64 GE], .bool GX, .bool GB]) (by simp [results, Tryd.results10, go_sem, q0, q1, q2]) rfl ⟨_, rfl, unhide R, unhide K7⟩

end Go.Proofs.YtpdgajfkhjdgaaaDoor

namespace Go.Proofs.YtpdgajfkhjdgaaaDoor
open Go.RowKit
set_option linter.unusedVariables false
set_option maxRecDepth 8000

/-- Whether what is beyond floats becomes the greatest one. -/
def flOv (mode : Int) (s : Bool) : Bool := (mode == 1) || ((mode == 2) && s) || ((mode == 3) && !s)
def flTop (V : Nat) (x : Int) : Int := x + (bitsN V : Int)
def flLow (V : Nat) (x : Int) : Int := max (flTop V x - 53) (-1074)
def flH (V : Nat) (x : Int) : Nat := scN V (x - (flLow V x - 1))
def flL (V : Nat) (x : Int) : Bool := scL V (x - (flLow V x - 1))
def flR (mode : Nat) (s : Bool) (V : Nat) (x : Int) : Nat := rndN mode s (flH V x) (flL V x)
def flX (V : Nat) (x : Int) : Bool := rndX (flH V x) (flL V x)
def flF (V : Nat) (x : Int) : Int := if flX V x = true then 0 else if flTop V x ≤ -1022 then 5 else 1
/-- A multiple R of 2^low as a float: its kind, M and E. -/
def flI (R : Nat) (low : Int) : Int × Int × Int := if R = 0 then (0, 0, 0) else if 53 < bitsN R then (1, ((R / 2 : Nat) : Int), low + 1) else (1, (R : Int), low)
def flO (mode : Int) (s : Bool) : Int × Int × Int := if flOv mode s = true then (1, 9007199254740991, 971) else (2, 0, 0)
/-- The float of a number: its kind, M and E. -/
def flA (mode : Int) (s : Bool) (V : Nat) (x : Int) : Int × Int × Int :=
  if V = 0 then (0, 0, 0) else if 1024 < topI (limbs (flR mode.toNat s V x)) (flLow V x) then flO mode s else flI (flR mode.toNat s V x) (flLow V x)
/-- Its flags. -/
def flG (mode : Int) (s : Bool) (V : Nat) (x : Int) : Int :=
  if V = 0 then 0 else if 1024 < topI (limbs (flR mode.toNat s V x)) (flLow V x) then 3 else flF V x

theorem bits_lt (V : Nat) : V < 2 ^ bitsN V := (bitsN_le V _).1 (Nat.le_refl _)
theorem bits_ge {V : Nat} (h : V ≠ 0) : 2 ^ (bitsN V - 1) ≤ V := by
  rcases Nat.lt_or_ge V (2 ^ (bitsN V - 1)) with h1 | h1
  · have := (bitsN_le V _).2 h1
    have : bitsN V ≠ 0 := by
      intro e
      have := (bitsN_le V 0).1 (by omega)
      omega
    omega
  · exact h1
theorem bits_pos {V : Nat} (h : V ≠ 0) : 0 < bitsN V := by
  rcases Nat.eq_zero_or_pos (bitsN V) with e | e
  · have := (bitsN_le V 0).1 (by omega)
    omega
  · exact e
theorem bits_shift {V : Nat} (h : V ≠ 0) (k : Nat) : bitsN (V * 2 ^ k) = bitsN V + k := by
  have h1 := bits_lt V
  have h2 := bits_ge h
  have h3 := bits_pos h
  apply bitsN_unique
  · rw [Nat.pow_add]; exact Nat.mul_lt_mul_of_pos_right h1 (Nat.pow_pos (by decide))
  · right
    rw [show bitsN V + k - 1 = (bitsN V - 1) + k by omega, Nat.pow_add]
    exact Nat.mul_le_mul_right _ h2
theorem scN_lt {V : Nat} {k : Int} (n : Nat) (h : (bitsN V : Int) + k ≤ n) : scN V k < 2 ^ n := by
  have h1 := bits_lt V
  by_cases hk : 0 ≤ k
  · obtain ⟨K, rfl⟩ : ∃ K : Nat, k = K := ⟨k.toNat, by omega⟩
    rw [scN_up]
    calc V * 2 ^ K < 2 ^ bitsN V * 2 ^ K := Nat.mul_lt_mul_of_pos_right h1 (Nat.pow_pos (by decide))
      _ = 2 ^ (bitsN V + K) := (Nat.pow_add _ _ _).symm
      _ ≤ 2 ^ n := Nat.pow_le_pow_right (by decide) (by omega)
  · obtain ⟨K, rfl⟩ : ∃ K : Nat, k = -(K : Int) := ⟨(-k).toNat, by omega⟩
    rw [scN_down _ _ (by omega)]
    refine Nat.div_lt_of_lt_mul ?_
    calc V < 2 ^ bitsN V := h1
      _ ≤ 2 ^ (K + n) := Nat.pow_le_pow_right (by decide) (by omega)
      _ = 2 ^ K * 2 ^ n := Nat.pow_add _ _ _
theorem scN_ge {V : Nat} (hV : V ≠ 0) {k : Int} (n : Nat) (h : (bitsN V : Int) + k = (n : Int) + 1) : 2 ^ n ≤ scN V k := by
  have h1 := bits_ge hV
  have h2 := bits_pos hV
  by_cases hk : 0 ≤ k
  · obtain ⟨K, rfl⟩ : ∃ K : Nat, k = K := ⟨k.toNat, by omega⟩
    rw [scN_up]
    calc 2 ^ n = 2 ^ (bitsN V - 1 + K) := by congr 1; omega
      _ = 2 ^ (bitsN V - 1) * 2 ^ K := Nat.pow_add _ _ _
      _ ≤ V * 2 ^ K := Nat.mul_le_mul_right _ h1
  · obtain ⟨K, rfl⟩ : ∃ K : Nat, k = -(K : Int) := ⟨(-k).toNat, by omega⟩
    rw [scN_down _ _ (by omega)]
    refine (Nat.le_div_iff_mul_le (Nat.pow_pos (by decide))).2 ?_
    calc 2 ^ n * 2 ^ K = 2 ^ (n + K) := (Nat.pow_add _ _ _).symm
      _ = 2 ^ (bitsN V - 1) := by congr 1; omega
      _ ≤ V := h1
theorem flLow_ge (V : Nat) (x : Int) : -1074 ≤ flLow V x ∧ flTop V x - 53 ≤ flLow V x ∧ (flLow V x = -1074 ∨ flLow V x = flTop V x - 53) := by
  unfold flLow
  omega
theorem flH_lt (V : Nat) (x : Int) : flH V x < 2 ^ 54 := by
  unfold flH
  have := flLow_ge V x
  exact scN_lt 54 (by unfold flTop at this; omega)
theorem flR_le (mode : Nat) (s : Bool) (V : Nat) (x : Int) : flR mode s V x ≤ 2 ^ 53 := by
  have h := flH_lt V x
  unfold flR rndN
  have e : (2 : Nat) ^ 54 = 2 ^ 53 * 2 := by decide
  split <;> omega
theorem flR_ge (mode : Nat) (s : Bool) {V : Nat} (hV : V ≠ 0) {x : Int} (h : -1074 < flLow V x) : 2 ^ 52 ≤ flR mode s V x := by
  have h1 : 2 ^ 53 ≤ flH V x := by
    unfold flH
    have := flLow_ge V x
    exact scN_ge hV 53 (by unfold flTop at this; omega)
  unfold flR rndN
  have e : (2 : Nat) ^ 53 = 2 ^ 52 * 2 := by decide
  split <;> omega

theorem sc_shift (V k : Nat) (j : Int) : scN (V * 2 ^ k) j = scN V (j + k) ∧ scL (V * 2 ^ k) j = scL V (j + k) := by
  by_cases hj : 0 ≤ j
  · obtain ⟨J, rfl⟩ : ∃ J : Nat, j = J := ⟨j.toNat, by omega⟩
    rw [scN_up, scL_up, show (J : Int) + (k : Int) = ((J + k : Nat) : Int) by omega, scN_up, scL_up, Nat.mul_assoc, ← Nat.pow_add, Nat.add_comm k J]
    exact ⟨rfl, rfl⟩
  · obtain ⟨J, rfl⟩ : ∃ J : Nat, j = -(J : Int) := ⟨(-j).toNat, by omega⟩
    rw [scN_down _ _ (by omega), scL_down _ _ (by omega)]
    rcases Nat.lt_or_ge k J with h | h
    · obtain ⟨d, rfl⟩ : ∃ d, J = k + d := ⟨J - k, by omega⟩
      rw [show -((k + d : Nat) : Int) + (k : Int) = -(d : Int) by omega, scN_down _ _ (by omega), scL_down _ _ (by omega), Nat.pow_add]
      refine ⟨?_, ?_⟩
      · rw [Nat.mul_comm V, Nat.mul_div_mul_left _ _ (Nat.pow_pos (by decide))]
      · rw [Nat.mul_comm V, Nat.mul_mod_mul_left]
        apply decide_eq_decide.2
        have hp : 0 < 2 ^ k := Nat.pow_pos (by decide)
        constructor
        · intro h1 h2; apply h1; rw [h2]; simp
        · intro h1 h2
          rcases Nat.mul_eq_zero.1 h2 with h3 | h3
          · omega
          · exact h1 h3
    · obtain ⟨d, rfl⟩ : ∃ d, k = J + d := ⟨k - J, by omega⟩
      rw [show -(J : Int) + ((J + d : Nat) : Int) = (d : Int) by omega, scN_up, scL_up, Nat.pow_add]
      have e : V * (2 ^ J * 2 ^ d) = 2 ^ J * (V * 2 ^ d) := by rw [Nat.mul_left_comm]
      rw [e]
      refine ⟨Nat.mul_div_cancel_left _ (Nat.pow_pos (by decide)), ?_⟩
      rw [Nat.mul_mod_right]
      simp
/-- A number has one float, however it is written. -/
theorem fl_shift (mode : Int) (s : Bool) {V : Nat} (hV : V ≠ 0) (k : Nat) (x : Int) : flA mode s (V * 2 ^ k) x = flA mode s V (x + k) ∧ flG mode s (V * 2 ^ k) x = flG mode s V (x + k) := by
  have hne : V * 2 ^ k ≠ 0 := Nat.mul_ne_zero hV (Nat.ne_of_gt (Nat.pow_pos (by decide)))
  have ht : flTop (V * 2 ^ k) x = flTop V (x + k) := by unfold flTop; rw [bits_shift hV]; omega
  have hl : flLow (V * 2 ^ k) x = flLow V (x + k) := by unfold flLow; rw [ht]
  have e : x - (flLow V (x + k) - 1) + (k : Int) = x + k - (flLow V (x + k) - 1) := by omega
  have hH : flH (V * 2 ^ k) x = flH V (x + k) := by unfold flH; rw [hl, (sc_shift V k _).1, e]
  have hL : flL (V * 2 ^ k) x = flL V (x + k) := by unfold flL; rw [hl, (sc_shift V k _).2, e]
  have hR : flR mode.toNat s (V * 2 ^ k) x = flR mode.toNat s V (x + k) := by unfold flR; rw [hH, hL]
  have hF : flF (V * 2 ^ k) x = flF V (x + k) := by unfold flF flX; rw [hH, hL, ht]
  unfold flA flG
  rw [if_neg hne, if_neg hV, if_neg hne, if_neg hV, hR, hl, hF]
  exact ⟨rfl, rfl⟩
theorem topI_limbs {R : Nat} (h : R ≠ 0) (x : Int) : topI (limbs R) x = x + (bitsN R : Int) := by
  unfold topI
  rw [if_neg, limbs_val, Int.toNat_natCast]
  intro e
  have h1 := limbs_pos R
  rw [e, decide_eq_true (show 0 < R by omega)] at h1
  exact absurd (of_decide_eq_true h1.symm.symm) (by decide)
theorem topI_zero (x : Int) : topI (limbs 0) x = 0 := by unfold topI; rw [limbs_zero]; rfl

/-- What the model tells of a multiple R of 2^low. -/
theorem fl_fin {R : Nat} {low : Int} (h0 : R ≠ 0) (hR : R ≤ 2 ^ 53) (hl : -1074 ≤ low) (hg : -1074 < low → 2 ^ 52 ≤ R) (M : Int) (hM : M.natAbs = R) :
    topI (dlm M) (dex M low) = low + (bitsN R : Int) ∧
    ∀ e : Int, e = max (low + (bitsN R : Int) - 53) (-1074) → e ≤ dex M low ∧ flI R low = (1, (((val (dlm M)).toNat * 2 ^ (dex M low - e).toNat : Nat) : Int), e) := by
  have hMne : M ≠ 0 := by intro e; subst e; simp at hM; omega
  have hdx : dex M low = low + (tz R : Int) := by unfold dex; rw [if_neg hMne, hM]
  have hdl : dlm M = limbs (R / 2 ^ tz R) := by unfold dlm; rw [hM]
  obtain ⟨m, hm⟩ := tz_form h0
  have hq : R / 2 ^ tz R = 2 * m + 1 := by
    have hp : 0 < 2 ^ tz R := Nat.pow_pos (by decide)
    have : R / 2 ^ tz R = (2 ^ tz R * (2 * m + 1)) / 2 ^ tz R := by rw [← hm]
    rw [this, Nat.mul_div_cancel_left _ hp]
  have hb : bitsN R = bitsN (2 * m + 1) + tz R := by
    have := bits_shift (V := 2 * m + 1) (by omega) (tz R)
    rw [Nat.mul_comm, ← hm] at this
    exact this
  have hvl : (val (dlm M)).toNat = 2 * m + 1 := by rw [hdl, limbs_val, Int.toNat_natCast, hq]
  refine ⟨?_, fun e he => ?_⟩
  · rw [hdl, topI_limbs (by rw [hq]; omega), hdx, hq, hb]
    omega
  · have hbl : bitsN R ≤ 54 := (bitsN_le R 54).2 (Nat.lt_of_le_of_lt hR (by decide))
    by_cases h54 : 53 < bitsN R
    · have hRe : R = 2 ^ 53 := by
        have := bits_ge h0
        rw [show bitsN R - 1 = 53 by omega] at this
        omega
      have ht : tz R = 53 := by
        rw [hRe]
        have := tz_eq (trail_form (n := 2 ^ 53) (k := 53) (m := 0) (by decide))
        exact this.symm
      have hee : e = low + 1 := by omega
      have hm1 : 2 * m + 1 = 1 := by
        have : 2 ^ 53 * (2 * m + 1) = 2 ^ 53 * 1 := by rw [ht, hRe] at hm; omega
        exact Nat.eq_of_mul_eq_mul_left (by decide) this
      refine ⟨by rw [hdx]; omega, ?_⟩
      unfold flI
      rw [if_neg h0, if_pos h54, hvl, hm1, hdx, hee, ht, hRe, show (low + ((53 : Nat) : Int) - (low + 1)).toNat = 52 by omega]
    · have hee : e = low := by
        by_cases hlo : low = -1074
        · omega
        · have h1 := hg (by omega)
          have h2 : 53 ≤ bitsN R := by
            rcases Nat.lt_or_ge (bitsN R) 53 with h | h
            · have := (bitsN_le R 52).1 (by omega)
              omega
            · exact h
          omega
      refine ⟨by rw [hdx]; omega, ?_⟩
      unfold flI
      rw [if_neg h0, if_neg h54, hvl, hdx, hee, show (low + (tz R : Int) - low).toNat = tz R by omega, Nat.mul_comm, ← hm]

end Go.Proofs.YtpdgajfkhjdgaaaDoor
