/-
  Contracts that the proofs of this seat share: Dy8, Dy9, DyR.
-/
import Derived.Test.YtocmecjadhodfaaDoorDy7
import Derived.Test.YtocmecjadhodfaaDoorBR
namespace Go.Proofs.YtocmecjadhodfaaDoor
open Go.RowKit
set_option linter.unusedVariables false
set_option maxRecDepth 8000
set_option linter.unusedSimpArgs false

theorem d_ok {s : Bool} {zs : List Int} {x : Int} (h : dokB s zs x = true) (m : Int) (hm : m.natAbs = (val zs).toNat) : ansDB true m x = true ∧ ansDS true m x = wsg m ∧ ansDL true m x = zs ∧ ansDE true m x = x := by
  obtain ⟨e1, e2⟩ := d_form h m hm
  obtain ⟨h1, h2, h3, -, -⟩ := dok_parts h
  obtain ⟨-, -, hl, -⟩ := wok_int h1
  have hb : ansDB true m x = true := by
    unfold ansDB
    rw [dok_told, e1, e2, decide_eq_true hl, decide_eq_true h2, decide_eq_true h3]
    rfl
  obtain ⟨b1, b2, b3⟩ := ansD_yes hb
  exact ⟨hb, b1, by rw [b2, e1], by rw [b3, e2]⟩
theorem neg_abs {s : Bool} {zs : List Int} (h : Lim zs) : (-wval s zs).natAbs = (val zs).toNat := by rw [Int.natAbs_neg, wval_abs h]
theorem wn_neg {s : Bool} {zs : List Int} (h : Nrm zs) (h0 : 0 < zs.length) (t : Bool) : WN t zs := ⟨h, fun _ => h0⟩
theorem wlm_neg {s : Bool} {zs : List Int} (h : Nrm zs) : wlm (-wval s zs) = zs := by unfold wlm; rw [neg_abs h.1]; exact (nrm_limbs h).symm
theorem wval_not (s : Bool) (zs : List Int) : wval (!s) zs = -wval s zs := by unfold wval; cases s <;> simp
/-- May it be shifted so far? -/
def l4eB (k : Int) : Bool := decide (-12000 ≤ k) && decide (k ≤ 12000)

end Go.Proofs.YtocmecjadhodfaaDoor

namespace Go.Proofs.YtocmecjadhodfaaDoor
open Go.RowKit
set_option linter.unusedVariables false
set_option maxRecDepth 8000
set_option linter.unusedSimpArgs false

theorem in_l4fits : ∀ (w : World) (args : Array Value), (callFunc 16 args).run Tryd.prog w = .ok (.enter 16 args) w := enters Tryd.func16 (by decide) (fun h => by cases h)

theorem fits_ans {c : Bool} (hc : c = true) (m x : Int) : (dokB (wsg m) (dlm m) (dex m x) && wsg m) = ansDS c m x ∧ (if dokB (wsg m) (dlm m) (dex m x) = true then dex m x else 0) = ansDE c m x ∧ dokB (wsg m) (dlm m) (dex m x) = ansDB c m x ∧ (if dokB (wsg m) (dlm m) (dex m x) = true then dlm m else []) = ansDL c m x := by
  subst hc; exact ⟨rfl, rfl, rfl, rfl⟩
theorem dex_range (m x : Int) (h1 : x ≤ 1000000) (h0 : -1000000 ≤ x) {K : Nat} (hm : m.natAbs < 2 ^ K) (hK : K ≤ 800000) : dex m x ≤ 9223372036854775807 ∧ -9223372036854775808 ≤ dex m x := by
  unfold dex
  split
  · omega
  · rename_i h
    have := tz_lt (n := m.natAbs) (by omega) hm
    omega
theorem wval_lt {s : Bool} {zs : List Int} (h : Lim zs) : (wval s zs).natAbs < 2 ^ (16 * zs.length) := by
  rw [wval_abs h]
  have h1 := val_lt h
  have h2 := val_nonneg h
  rw [pow_limb] at h1
  omega
/-- A number that is odd, or nought, elsewhere. -/
theorem shift_form {s : Bool} {zs : List Int} {x : Int} (h : dokB s zs x = true) (h0 : 0 < zs.length) (k : Int) : dlm (wval s zs) = zs ∧ dex (wval s zs) (x + k) = x + k ∧ wsg (wval s zs) = s := by
  have hw := wok_wn (dok_parts h).1
  obtain ⟨e1, e2⟩ := d_form h (wval s zs) (wval_abs hw.1.1)
  refine ⟨e1, ?_, wn_sign hw⟩
  have hne := (shr_wn hw h0).2.2
  unfold dex at e2 ⊢
  rw [if_neg hne] at e2 ⊢
  omega
theorem shift_zero (x : Int) : ansDB true 0 x = true ∧ ansDS true 0 x = false ∧ ansDL true 0 x = [] ∧ ansDE true 0 x = 0 := by
  have hb : ansDB true 0 x = true := by unfold ansDB; rw [dlm_zero]; simp [dex]; rfl
  obtain ⟨b1, b2, b3⟩ := ansD_yes hb
  exact ⟨hb, by rw [b1]; rfl, by rw [b2, dlm_zero], by rw [b3]; simp [dex]⟩

end Go.Proofs.YtocmecjadhodfaaDoor

namespace Go.Proofs.YtocmecjadhodfaaDoor
open Go.RowKit
set_option linter.unusedVariables false
set_option maxRecDepth 8000
set_option linter.unusedSimpArgs false

def modeB (mode : Int) : Bool := decide (0 ≤ mode) && decide (mode ≤ 4)
def mayR (low mode : Int) : Bool := (decide (-3000 ≤ low) && decide (low ≤ 3000)) && modeB mode
theorem mayR_iff {low mode : Int} (h : mayR low mode = true) : -3000 ≤ low ∧ low ≤ 3000 ∧ 0 ≤ mode ∧ mode ≤ 4 := by
  unfold mayR modeB at h
  simp at h
  omega
theorem new_half {w : World} {b : Nat} {u : Value} {xs : List Int} (s : Bool) (low : Int) (mo : Bool) (t : TypeId) (O : OwnA b w u xs) :
    Wrk b (w.alloc (.cells #[u, .bool s, .int .i64 low, .bool mo] t)) w.heap.size u xs ∧ Sd (w.alloc (.cells #[u, .bool s, .int .i64 low, .bool mo] t)) w.heap.size s ∧ Ex (w.alloc (.cells #[u, .bool s, .int .i64 low, .bool mo] t)) w.heap.size low ∧ Mo (w.alloc (.cells #[u, .bool s, .int .i64 low, .bool mo] t)) w.heap.size mo :=
  ⟨⟨new_cell2 _ _ _ _ _ _ rfl rfl, new_loose2 _ _ _ _ _ rfl, O.kept ((Kept.refl 0 0 w).alloc _), fun e => by have := (O.lt e).2; omega⟩, ⟨new_cell2 _ _ _ _ _ _ rfl rfl, new_loose2 _ _ _ _ _ rfl⟩, ⟨new_cell2 _ _ _ _ _ _ rfl rfl, new_loose2 _ _ _ _ _ rfl⟩, ⟨new_cell2 _ _ _ _ _ _ rfl rfl, new_loose2 _ _ _ _ _ rfl⟩⟩
theorem new_dyaA {w : World} {b : Nat} {u : Value} {xs : List Int} (s : Bool) (x : Int) (t : TypeId) (O : OwnA b w u xs) :
    Wrk b (w.alloc (.cells #[u, .bool s, .int .i64 x] t)) w.heap.size u xs ∧ Sd (w.alloc (.cells #[u, .bool s, .int .i64 x] t)) w.heap.size s ∧ Ex (w.alloc (.cells #[u, .bool s, .int .i64 x] t)) w.heap.size x :=
  ⟨⟨new_cell2 _ _ _ _ _ _ rfl rfl, new_loose2 _ _ _ _ _ rfl, O.kept ((Kept.refl 0 0 w).alloc _), fun e => by have := (O.lt e).2; omega⟩, ⟨new_cell2 _ _ _ _ _ _ rfl rfl, new_loose2 _ _ _ _ _ rfl⟩, ⟨new_cell2 _ _ _ _ _ _ rfl rfl, new_loose2 _ _ _ _ _ rfl⟩⟩
theorem scN_le (V : Nat) (k : Int) (j : Nat) (hk : k ≤ 16 * (j : Int)) : scN V k ≤ V * 2 ^ (16 * j) := by
  unfold scN
  split
  · exact Nat.mul_le_mul_left _ (Nat.pow_le_pow_right (by decide) (by omega))
  · exact Nat.le_trans (Nat.div_le_self _ _) (Nat.le_mul_of_pos_right _ (Nat.pow_pos (by decide)))
theorem scN_len {zs : List Int} (h : Lim zs) (k : Int) (j : Nat) (hk : k ≤ 16 * (j : Int)) : (limbs (scN (val zs).toNat k)).length ≤ zs.length + j := by
  refine (limbs_length_le _ _).2 ?_
  have h1 := val_lt h
  have h2 := val_nonneg h
  have h3 := scN_le (val zs).toNat k j hk
  rw [pow_limb] at h1 ⊢
  have h4 : (val zs).toNat < 2 ^ (16 * zs.length) := by omega
  have h5 : (val zs).toNat * 2 ^ (16 * j) < 2 ^ (16 * zs.length) * 2 ^ (16 * j) := Nat.mul_lt_mul_of_pos_right h4 (Nat.pow_pos (by decide))
  rw [← Nat.pow_add, ← Nat.mul_add] at h5
  exact_mod_cast Nat.lt_of_le_of_lt h3 h5
theorem rndN_le (mode : Nat) (s : Bool) (H : Nat) (mo : Bool) : rndN mode s H mo ≤ H + 1 := by
  unfold rndN
  split <;> omega
theorem rndN_len (mode : Nat) (s : Bool) (H : Nat) (mo : Bool) : (limbs (rndN mode s H mo)).length ≤ (limbs H).length + 1 := by
  refine Nat.le_trans (limbs_len_le (rndN_le mode s H mo)) ?_
  have := limbs_succ_len (limbs H) (limbs_nrm H)
  rw [limbs_val, Int.toNat_natCast] at this
  exact this
theorem rnd_told {s : Bool} {zs : List Int} {x low : Int} (h : dokB s zs x = true) (mode : Nat) (hX : rndX (scN (val zs).toNat (x - (low - 1))) (scL (val zs).toNat (x - (low - 1))) = true) :
    ansDB true (rndM mode s (val zs).toNat (x - (low - 1))) low = true := by
  obtain ⟨h1, h2, h3, h4, h5⟩ := dok_parts h
  have hw := wok_wn h1
  have hle : zs = [] ∨ low ≤ x := by
    by_cases h0 : zs = []
    · exact .inl h0
    · refine .inr ?_
      rcases Int.lt_or_le x low with hlt | hge
      · exfalso
        obtain ⟨K, hK⟩ : ∃ K : Nat, low - x = K := ⟨(low - x).toNat, by omega⟩
        have e1 : x - (low - 1) = 1 - (K : Int) := by omega
        have hv := val_nonneg hw.1.1
        have := (rnd_low (K := K) (V := (val zs).toNat) (by omega) (by have := h5 h0; omega) mode s).1
        rw [e1, this] at hX
        cases hX
      · exact hge
  obtain ⟨-, g2, g3, g4⟩ := rnd_same (low := low) hw h5 h4 hle mode
  unfold ansDB
  rw [g2, g3, g4, h]
  rfl
theorem ans_form {c : Bool} {m x : Int} (h : ansDB c m x = true) : Lim (ansDL c m x) ∧ limbs (val (ansDL c m x)).toNat = ansDL c m x ∧ (ansDS c m x && decide (0 < (ansDL c m x).length)) = ansDS c m x := by
  obtain ⟨b1, b2, b3⟩ := ansD_yes h
  have hn : Nrm (dlm m) := limbs_nrm _
  rw [b1, b2]
  refine ⟨hn.1, (nrm_limbs hn).symm, ?_⟩
  by_cases h0 : m = 0
  · subst h0; rfl
  · rw [decide_eq_true (dlm_pos h0).1, Bool.and_true]

set_option maxHeartbeats 2000000 in
theorem mode_spec (x : Int) (w : World) :
    Calls Tryd.prog 13 #[.int .i64 x] w fun e w' => e = .returned (.bool (modeB x)) ∧ w' = w := by
  have HB : Hid (modeB x = (decide (0 ≤ x) && decide (x ≤ 4))) := rfl
  generalize modeB x = Q at *
  go_enter Tryd.func13, Tryd.ntmps13
  by_cases h1 : 0 ≤ x
  rotate_left
  · have hd : decide (0 ≤ x) = false := decide_eq_false h1
    go_wp2_with fail
    go_ret
    exact ⟨by rw [unhide HB, hd]; rfl, rfl⟩
  have hd : decide (0 ≤ x) = true := decide_eq_true h1
  go_wp2_with fail
  go_ret
  exact ⟨by rw [unhide HB, hd]; rfl, rfl⟩

set_option maxHeartbeats 2000000 in
theorem isMode_impl (x : Int) (w : World) :
    Calls Tryd.prog 42 #[.int .i64 x] w fun e w' => e = .returned (.bool (modeB x)) ∧ w' = w := by
  have HB : Hid (modeB x = (decide (0 ≤ x) && decide (x ≤ 4))) := rfl
  generalize modeB x = Q at *
  go_enter Tryd.func42, Tryd.ntmps42
  by_cases h1 : 0 ≤ x
  rotate_left
  · have hd : decide (0 ≤ x) = false := decide_eq_false h1
    go_wp2_with fail
    go_ret
    exact ⟨by rw [unhide HB, hd]; rfl, rfl⟩
  have hd : decide (0 ≤ x) = true := decide_eq_true h1
  go_wp2_with fail
  go_ret
  exact ⟨by rw [unhide HB, hd]; rfl, rfl⟩

set_option maxHeartbeats 2000000 in
theorem mayRound_impl (low mode : Int) (w : World) :
    Calls Tryd.prog 19 #[.int .i64 low, .int .i64 mode] w fun e w' => e = .returned (.bool (mayR low mode)) ∧ w' = w := by
  have HB : Hid (mayR low mode = ((decide (-3000 ≤ low) && decide (low ≤ 3000)) && modeB mode)) := rfl
  generalize mayR low mode = Q at *
  go_enter Tryd.func19, Tryd.ntmps19
  by_cases h1 : -3000 ≤ low
  rotate_left
  · have hd : decide (-3000 ≤ low) = false := decide_eq_false h1
    go_wp2_with fail
    go_ret
    exact ⟨by rw [unhide HB, hd]; rfl, rfl⟩
  have hd : decide (-3000 ≤ low) = true := decide_eq_true h1
  by_cases h2 : low ≤ 3000
  rotate_left
  · have hd2 : decide (low ≤ 3000) = false := decide_eq_false h2
    go_wp2_with fail
    go_ret
    exact ⟨by rw [unhide HB, hd, hd2]; rfl, rfl⟩
  have hd2 : decide (low ≤ 3000) = true := decide_eq_true h2
  go_wp2_with fail
  refine (isMode_impl mode _).mono ?_
  rintro e w5 ⟨rfl, rfl⟩
  have HD := hide (And.intro hd hd2)
  clear hd hd2
  go_wp2_with fail
  go_ret
  exact ⟨by rw [unhide HB, (unhide HD).1, (unhide HD).2]; rfl, rfl⟩

end Go.Proofs.YtocmecjadhodfaaDoor
