/-
  Contracts of the program's methods isZero, bits, at and bit, and of NatBits and NatBit, the model's and the program's.
-/
import Derived.Test.YtlaelfkhlloglaaDoorINat5
namespace Go.Proofs.YtlaelfkhlloglaaDoor
open Go.RowKit
set_option linter.unusedVariables false
set_option maxRecDepth 8000

/-- What a number's limbs stand for, if it is well made; else nought. -/
def numOf (zs : List Int) : Nat := if okB zs = true then (val zs).toNat else 0
theorem numOf_ok {zs : List Int} (h : okB zs = true) : numOf zs = (val zs).toNat := by unfold numOf; rw [if_pos h]
theorem numOf_bad {zs : List Int} (h : okB zs = false) : numOf zs = 0 := by unfold numOf; rw [if_neg (by simp [h])]

theorem Num.at {b g : Nat} {w : World} {v : Value} {zs : List Int} (h : Num b w g v zs) : ∀ j, j < zs.length → ∃ g1 c, v = .slice (some ⟨g1, 0, none⟩) zs.length c ∧ w.cell? ⟨g1, j, none⟩ = some (.int .i64 (zs.getD j 0)) ∧ w.frozen? ⟨g1, j, none⟩ = false ∧ g1 ≠ g := by
  intro j hj
  obtain ⟨g1, cap, hv, -⟩ := own_form h.own (by omega)
  subst hv
  have := own_cell h.own j hj
  exact ⟨g1, cap, rfl, this.1, this.2, fun e => h.apart (by simp [Value.ownBlock, e])⟩

set_option maxHeartbeats 1000000 in
theorem bitsM_impl {b g : Nat} {v : Value} {zs : List Int} (w : World) (h : Num b w g v zs) (hl : Nrm zs) (hlen : zs.length ≤ 1000000) :
    Calls Tryd.prog 72 #[.pointer (some ⟨g, 0, none⟩)] w fun e w' => e = .returned (.int .i64 (bitsN (val zs).toNat)) ∧ Kept 0 0 w w' := by
  have hc := h.cell
  obtain ⟨a1, c1, rfl⟩ := h.form
  by_cases h0 : zs = []
  · subst h0
    have e0 : bitsN (val []).toNat = 0 := rfl
    rw [e0]
    clear h
    go_enter Tryd.func72, Tryd.ntmps72
    go_wp2
    go_ret
    exact ⟨rfl, Kept.refl _ _ _⟩
  · have h1 : 0 < zs.length := List.length_pos_iff.2 h0
    obtain ⟨n, hn⟩ : ∃ n, zs.length = n + 1 := ⟨zs.length - 1, by omega⟩
    have htop : zs.getD n 0 ≠ 0 := hl.2 _ (by rw [List.getLast?_eq_getElem?, hn]; simp [List.getD, hn])
    have hb := hl.1.at n
    have e1 := bitsN_val hl.1 n hn (by omega)
    obtain ⟨g1, c', e', hx, -, -⟩ := h.at n (by omega)
    cases e'
    obtain ⟨t, et⟩ : ∃ t : Nat, zs.getD n 0 = t := ⟨(zs.getD n 0).toNat, by omega⟩
    rw [et] at hx e1 hb
    rw [Int.toNat_natCast] at e1
    have hne : (((n + 1 : Nat) : Int) == 0) = false := beq_eq_false_iff_ne.2 (by omega)
    have hbt : bitsN t ≤ 16 := (bitsN_le t 16).2 (by omega)
    have hm := h.row.len
    unfold maxLen at hm
    rw [e1]
    rw [hn] at hc hm hlen
    have hn' : n ≤ 999999 := by omega
    have ht5 : (t : Int) ≤ 65535 := hb.2
    have hlen1 := fun w => len_impl (t : Int) w (by omega) ht5
    rw [Int.toNat_natCast] at hlen1
    have hn1 : zs.length = n + 1 := hn
    generalize bitsN t = R at *
    have HL := hide hlen1
    have HN := hide hn1
    clear h hl e1 et htop h0 h1 hlen1 hn hn1 hb
    go_enter Tryd.func72, Tryd.ntmps72
    go_wp2_with (first
      | (go_at_call 87; refine (unhide HL _).mono ?_; rintro e w' ⟨rfl, rfl⟩)
      | go_in)
    go_ret
    exact ⟨by go_num, Kept.refl _ _ _⟩

set_option maxHeartbeats 1000000 in
theorem at_impl {b g : Nat} {v : Value} {zs : List Int} (w : World) (h : Num b w g v zs) (i : Nat) (hi : (i : Int) ≤ 9223372036854775807) :
    Calls Tryd.prog 90 #[.pointer (some ⟨g, 0, none⟩), .int .i64 i] w fun e w' => e = .returned (.int .i64 (zs.getD i 0)) ∧ w' = w := by
  have hc := h.cell
  have hm := h.row.len
  unfold maxLen at hm
  by_cases hlt : i < zs.length
  · obtain ⟨g1, c', rfl, hx, -, -⟩ := h.at i hlt
    have hlt' : (i : Int) < (zs.length : Int) := by omega
    generalize zs.getD i 0 = z at *
    clear h
    go_enter Tryd.func90, Tryd.ntmps90
    go_wp2
    go_ret
    exact ⟨rfl, rfl⟩
  · have e0 : zs.getD i 0 = 0 := by simp [List.getD, List.getElem?_eq_none (Nat.le_of_not_lt hlt)]
    rw [e0]
    have hlt' : ¬ (i : Int) < (zs.length : Int) := by omega
    obtain ⟨a1, c1, rfl⟩ := h.form
    clear h
    go_enter Tryd.func90, Tryd.ntmps90
    go_wp2
    go_ret
    exact ⟨rfl, rfl⟩

/-- The bit i of a number. -/
def bitAt (n : Nat) (i : Int) : Int := if i < 0 then 0 else ((n / 2 ^ i.toNat % 2 : Nat) : Int)

set_option maxHeartbeats 1000000 in
theorem bitM_impl {b g : Nat} {v : Value} {zs : List Int} (w : World) (h : Num b w g v zs) (hl : Lim zs) (i : Int) (hi0 : 0 ≤ i) (hi1 : i ≤ 9223372036854775807) :
    Calls Tryd.prog 74 #[.pointer (some ⟨g, 0, none⟩), .int .i64 i] w fun e w' => e = .returned (.int .i64 (bitAt (val zs).toNat i)) ∧ w' = w := by
  obtain ⟨q, s, hs, e⟩ : ∃ q s : Nat, s < 16 ∧ i = ((16 * q + s : Nat) : Int) := ⟨(i / 16).toNat, (i % 16).toNat, by omega, by omega⟩
  have hq := hl.at q
  have e1 := bit_limb hl q s hs
  have eI : i.toNat = 16 * q + s := by omega
  have eB : bitAt (val zs).toNat i = (((zs.getD q 0).toNat / 2 ^ s % 2 : Nat) : Int) := by
    unfold bitAt; rw [if_neg (by omega), eI, e1]
  rw [eB]
  obtain ⟨t, et⟩ : ∃ t : Nat, zs.getD q 0 = t := ⟨(zs.getD q 0).toNat, by omega⟩
  rw [et, Int.toNat_natCast]
  have e3 : i.tdiv 16 = (q : Int) := by rw [Int.tdiv_eq_ediv_of_nonneg (by omega)]; omega
  have e4 : i.tmod 16 = (s : Int) := by rw [Int.tmod_eq_emod_of_nonneg (by omega)]; omega
  have hat := at_impl w h q (by omega)
  rw [et] at hat hq
  have HA := hide hat
  have hw1 : ¬ ((s : Int) < 0) := by omega
  have hs64 : (s : Int) < 64 := by omega
  have hqr : (q : Int) ≤ 9223372036854775807 := by omega
  clear h hl eB e1 eI hat et e
  go_enter Tryd.func74, Tryd.ntmps74
  go_wp2_with (go_at_call 90; refine (unhide HA).mono ?_; rintro e w' ⟨rfl, rfl⟩)
  go_ret
  exact ⟨ret_int (by rw [and_one]; simp), rfl⟩

end Go.Proofs.YtlaelfkhlloglaaDoor
