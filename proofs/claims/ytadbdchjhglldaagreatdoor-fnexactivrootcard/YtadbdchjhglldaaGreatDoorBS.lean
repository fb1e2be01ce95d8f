/-
  Contracts that the proofs of this seat share: Dy8, Dy9, DyR, Fl1, FlNm, DivQ.
-/
import Derived.Test.YtadbdchjhglldaaGreatDoorDy7
import Derived.Test.YtadbdchjhglldaaGreatDoorBR
import Derived.Test.YtadbdchjhglldaaGreatDoorBA
import Derived.Test.YtadbdchjhglldaaGreatDoorChecked
import Derived.WalkSpells
import Derived.WalkLawsBesides
namespace Go.Proofs.YtadbdchjhglldaaGreatDoor
open Go.RowKit
set_option linter.unusedVariables false
set_option maxRecDepth 8000
set_option linter.unusedSimpArgs false

end Go.Proofs.YtadbdchjhglldaaGreatDoor

namespace Go.Proofs.YtadbdchjhglldaaGreatDoor
open Go.RowKit
set_option linter.unusedVariables false
set_option maxRecDepth 8000
set_option linter.unusedSimpArgs false

theorem dex_range (m x : Int) (h1 : x ≤ 1000000) (h0 : -1000000 ≤ x) {K : Nat} (hm : m.natAbs < 2 ^ K) (hK : K ≤ 800000) : dex m x ≤ 9223372036854775807 ∧ -9223372036854775808 ≤ dex m x := by
  unfold dex
  split
  · omega
  · rename_i h
    have := tz_lt (n := m.natAbs) (by omega) hm
    omega
end Go.Proofs.YtadbdchjhglldaaGreatDoor

namespace Go.Proofs.YtadbdchjhglldaaGreatDoor
open Go.RowKit
set_option linter.unusedVariables false
set_option maxRecDepth 8000
set_option linter.unusedSimpArgs false

def modeB (mode : Int) : Bool := decide (0 ≤ mode) && decide (mode ≤ 4)
def mayR (low mode : Int) : Bool := (decide (-3000 ≤ low) && decide (low ≤ 3000)) && modeB mode
theorem mayR_iff {low mode : Int} (h : mayR low mode = true) : -3000 ≤ low ∧ low ≤ 3000 ∧ 0 ≤ mode ∧ mode ≤ 4 := by
  unfold mayR modeB at h
  simp at h
  omega
theorem new_half {w : World} {b : Nat} {u : Value} {xs : List Int} (s : Bool) (low : Int) (mo : Bool) (t : TypeId) (O : OwnA b w u xs) :
    Wrk b (w.alloc (.cells #[u, .bool s, .int .i64 low, .bool mo] t)) w.heap.size u xs ∧ Sd (w.alloc (.cells #[u, .bool s, .int .i64 low, .bool mo] t)) w.heap.size s ∧ Ex (w.alloc (.cells #[u, .bool s, .int .i64 low, .bool mo] t)) w.heap.size low ∧ Mo (w.alloc (.cells #[u, .bool s, .int .i64 low, .bool mo] t)) w.heap.size mo :=
  ⟨⟨new_cell2 _ _ _ _ _ _ rfl rfl, new_loose2 _ _ _ _ _ rfl, O.kept ((Kept.refl 0 0 w).alloc _), fun e => by have := (O.lt e).2; omega⟩, ⟨new_cell2 _ _ _ _ _ _ rfl rfl, new_loose2 _ _ _ _ _ rfl⟩, ⟨new_cell2 _ _ _ _ _ _ rfl rfl, new_loose2 _ _ _ _ _ rfl⟩, ⟨new_cell2 _ _ _ _ _ _ rfl rfl, new_loose2 _ _ _ _ _ rfl⟩⟩
theorem new_dyaA {w : World} {b : Nat} {u : Value} {xs : List Int} (s : Bool) (x : Int) (t : TypeId) (O : OwnA b w u xs) :
    Wrk b (w.alloc (.cells #[u, .bool s, .int .i64 x] t)) w.heap.size u xs ∧ Sd (w.alloc (.cells #[u, .bool s, .int .i64 x] t)) w.heap.size s ∧ Ex (w.alloc (.cells #[u, .bool s, .int .i64 x] t)) w.heap.size x :=
  ⟨⟨new_cell2 _ _ _ _ _ _ rfl rfl, new_loose2 _ _ _ _ _ rfl, O.kept ((Kept.refl 0 0 w).alloc _), fun e => by have := (O.lt e).2; omega⟩, ⟨new_cell2 _ _ _ _ _ _ rfl rfl, new_loose2 _ _ _ _ _ rfl⟩, ⟨new_cell2 _ _ _ _ _ _ rfl rfl, new_loose2 _ _ _ _ _ rfl⟩⟩
theorem scN_le (V : Nat) (k : Int) (j : Nat) (hk : k ≤ 16 * (j : Int)) : scN V k ≤ V * 2 ^ (16 * j) := by
  unfold scN
  split
  · exact Nat.mul_le_mul_left _ (Nat.pow_le_pow_right (by decide) (by omega))
  · exact Nat.le_trans (Nat.div_le_self _ _) (Nat.le_mul_of_pos_right _ (Nat.pow_pos (by decide)))
theorem scN_len {zs : List Int} (h : Lim zs) (k : Int) (j : Nat) (hk : k ≤ 16 * (j : Int)) : (limbs (scN (val zs).toNat k)).length ≤ zs.length + j := by
  refine (limbs_length_le _ _).2 ?_
  have h1 := val_lt h
  have h2 := val_nonneg h
  have h3 := scN_le (val zs).toNat k j hk
  rw [pow_limb] at h1 ⊢
  have h4 : (val zs).toNat < 2 ^ (16 * zs.length) := by omega
  have h5 : (val zs).toNat * 2 ^ (16 * j) < 2 ^ (16 * zs.length) * 2 ^ (16 * j) := Nat.mul_lt_mul_of_pos_right h4 (Nat.pow_pos (by decide))
  rw [← Nat.pow_add, ← Nat.mul_add] at h5
  exact_mod_cast Nat.lt_of_le_of_lt h3 h5
theorem rndN_le (mode : Nat) (s : Bool) (H : Nat) (mo : Bool) : rndN mode s H mo ≤ H + 1 := by
  unfold rndN
  split <;> omega
theorem rndN_len (mode : Nat) (s : Bool) (H : Nat) (mo : Bool) : (limbs (rndN mode s H mo)).length ≤ (limbs H).length + 1 := by
  refine Nat.le_trans (limbs_len_le (rndN_le mode s H mo)) ?_
  have := limbs_succ_len (limbs H) (limbs_nrm H)
  rw [limbs_val, Int.toNat_natCast] at this
  exact this
set_option maxHeartbeats 2000000 in
theorem isMode_impl (x : Int) (w : World) :
    Calls Tryz.prog 60 #[.int .i64 x] w fun e w' => e = .returned (.bool (modeB x)) ∧ w' = w := by
  have HB : Hid (modeB x = (decide (0 ≤ x) && decide (x ≤ 4))) := rfl
  generalize modeB x = Q at *
  go_enter Tryz.func60, Tryz.ntmps60
  by_cases h1 : 0 ≤ x
  rotate_left
  · have hd : decide (0 ≤ x) = false := decide_eq_false h1
    go_wp2_with fail
    go_ret
    exact ⟨by rw [unhide HB, hd]; rfl, rfl⟩
  have hd : decide (0 ≤ x) = true := decide_eq_true h1
  go_wp2_with fail
  go_ret
  exact ⟨by rw [unhide HB, hd]; rfl, rfl⟩

set_option maxHeartbeats 2000000 in
theorem mayRound_impl (low mode : Int) (w : World) :
    Calls Tryz.prog 34 #[.int .i64 low, .int .i64 mode] w fun e w' => e = .returned (.bool (mayR low mode)) ∧ w' = w := by
  have HB : Hid (mayR low mode = ((decide (-3000 ≤ low) && decide (low ≤ 3000)) && modeB mode)) := rfl
  generalize mayR low mode = Q at *
  go_enter Tryz.func34, Tryz.ntmps34
  by_cases h1 : -3000 ≤ low
  rotate_left
  · have hd : decide (-3000 ≤ low) = false := decide_eq_false h1
    go_wp2_with fail
    go_ret
    exact ⟨by rw [unhide HB, hd]; rfl, rfl⟩
  have hd : decide (-3000 ≤ low) = true := decide_eq_true h1
  by_cases h2 : low ≤ 3000
  rotate_left
  · have hd2 : decide (low ≤ 3000) = false := decide_eq_false h2
    go_wp2_with fail
    go_ret
    exact ⟨by rw [unhide HB, hd, hd2]; rfl, rfl⟩
  have hd2 : decide (low ≤ 3000) = true := decide_eq_true h2
  go_wp2_with fail
  refine (isMode_impl mode _).mono ?_
  rintro e w5 ⟨rfl, rfl⟩
  have HD := hide (And.intro hd hd2)
  clear hd hd2
  go_wp2_with fail
  go_ret
  exact ⟨by rw [unhide HB, (unhide HD).1, (unhide HD).2]; rfl, rfl⟩

end Go.Proofs.YtadbdchjhglldaaGreatDoor

namespace Go.Proofs.YtadbdchjhglldaaGreatDoor
open Go.RowKit
set_option linter.unusedVariables false

end Go.Proofs.YtadbdchjhglldaaGreatDoor

namespace Go.Proofs.YtadbdchjhglldaaGreatDoor
open Go.RowKit
set_option linter.unusedVariables false
set_option maxRecDepth 8000

theorem sc_shift (V k : Nat) (j : Int) : scN (V * 2 ^ k) j = scN V (j + k) ∧ scL (V * 2 ^ k) j = scL V (j + k) := by
  by_cases hj : 0 ≤ j
  · obtain ⟨J, rfl⟩ : ∃ J : Nat, j = J := ⟨j.toNat, by omega⟩
    rw [scN_up, scL_up, show (J : Int) + (k : Int) = ((J + k : Nat) : Int) by omega, scN_up, scL_up, Nat.mul_assoc, ← Nat.pow_add, Nat.add_comm k J]
    exact ⟨rfl, rfl⟩
  · obtain ⟨J, rfl⟩ : ∃ J : Nat, j = -(J : Int) := ⟨(-j).toNat, by omega⟩
    rw [scN_down _ _ (by omega), scL_down _ _ (by omega)]
    rcases Nat.lt_or_ge k J with h | h
    · obtain ⟨d, rfl⟩ : ∃ d, J = k + d := ⟨J - k, by omega⟩
      rw [show -((k + d : Nat) : Int) + (k : Int) = -(d : Int) by omega, scN_down _ _ (by omega), scL_down _ _ (by omega), Nat.pow_add]
      refine ⟨?_, ?_⟩
      · rw [Nat.mul_comm V, Nat.mul_div_mul_left _ _ (Nat.pow_pos (by decide))]
      · rw [Nat.mul_comm V, Nat.mul_mod_mul_left]
        apply decide_eq_decide.2
        have hp : 0 < 2 ^ k := Nat.pow_pos (by decide)
        constructor
        · intro h1 h2; apply h1; rw [h2]; simp
        · intro h1 h2
          rcases Nat.mul_eq_zero.1 h2 with h3 | h3
          · omega
          · exact h1 h3
    · obtain ⟨d, rfl⟩ : ∃ d, k = J + d := ⟨k - J, by omega⟩
      rw [show -(J : Int) + ((J + d : Nat) : Int) = (d : Int) by omega, scN_up, scL_up, Nat.pow_add]
      have e : V * (2 ^ J * 2 ^ d) = 2 ^ J * (V * 2 ^ d) := by rw [Nat.mul_left_comm]
      rw [e]
      refine ⟨Nat.mul_div_cancel_left _ (Nat.pow_pos (by decide)), ?_⟩
      rw [Nat.mul_mod_right]
      simp
end Go.Proofs.YtadbdchjhglldaaGreatDoor

namespace Go.Proofs.YtadbdchjhglldaaGreatDoor
open Go.RowKit
set_option linter.unusedVariables false

/-- the model's number in its one form: what l4round sees of it is its cut. -/
theorem quo_seen (Q : Nat) (hQ : Q ≠ 0) (S : Bool) (low : Int) :
    scN (val (dlm (wval S (limbs Q)))).toNat (dex (wval S (limbs Q)) (low - 3) - (low - 1)) = scN Q (-2) ∧ scL (val (dlm (wval S (limbs Q)))).toNat (dex (wval S (limbs Q)) (low - 3) - (low - 1)) = scL Q (-2) := by
  have ha : (wval S (limbs Q)).natAbs = Q := by rw [wval_abs (limbs_lim Q), limbs_val, Int.toNat_natCast]
  have hne : wval S (limbs Q) ≠ 0 := by intro e; rw [e] at ha; simp at ha; omega
  obtain ⟨m, hm⟩ := tz_form hQ
  have e1 : Q / 2 ^ tz Q * 2 ^ tz Q = Q := by
    have : 2 ^ tz Q ∣ Q := ⟨2 * m + 1, hm⟩
    exact Nat.div_mul_cancel this
  unfold dlm dex
  rw [if_neg hne, ha, limbs_val, Int.toNat_natCast]
  have := sc_shift (Q / 2 ^ tz Q) (tz Q) (-2)
  rw [e1] at this
  rw [show low - 3 + (tz Q : Int) - (low - 1) = -2 + (tz Q : Int) by omega]
  exact ⟨this.1.symm, this.2.symm⟩

end Go.Proofs.YtadbdchjhglldaaGreatDoor

