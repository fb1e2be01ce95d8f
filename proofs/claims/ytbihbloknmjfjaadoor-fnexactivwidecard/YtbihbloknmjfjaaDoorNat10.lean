/-
  Contracts of the model's l2fits, l2bit.
-/
import Derived.Test.YtbihbloknmjfjaaDoorBB
import Derived.Test.YtbihbloknmjfjaaDoorDec
namespace Go.Proofs.YtbihbloknmjfjaaDoor
open Go.RowKit
set_option linter.unusedVariables false
set_option maxRecDepth 8000

theorem and_one (x : Int) : bits .and .i64 x 1 = x % 2 := and_i64 x 1 (by decide)
theorem bit_limb {zs : List Int} (h : Lim zs) (q s : Nat) (hs : s < 16) : (val zs).toNat / 2 ^ (16 * q + s) % 2 = (zs.getD q 0).toNat / 2 ^ s % 2 := by
  obtain ⟨t, et⟩ : ∃ t : Nat, zs.getD q 0 = t := ⟨(zs.getD q 0).toNat, by have := h.at q; omega⟩
  by_cases hq : q < zs.length
  · have e := val_take_drop zs q (by omega)
    have e2 := val_drop zs q
    have h1 := val_lt (h.take q)
    have h2 := val_nonneg (h.take q)
    have h3 := val_nonneg (h.drop (q + 1))
    rw [List.length_take, Nat.min_eq_left (by omega)] at h1
    obtain ⟨u, eu⟩ : ∃ u : Nat, val (zs.take q) = u := ⟨(val (zs.take q)).toNat, by omega⟩
    obtain ⟨r, er⟩ : ∃ r : Nat, val (zs.drop (q + 1)) = r := ⟨(val (zs.drop (q + 1))).toNat, by omega⟩
    rw [et, er] at e2
    rw [e2, eu, pow_limb] at e
    rw [eu, pow_limb] at h1
    have h1' : u < 2 ^ (16 * q) := by omega
    have e' : (val zs).toNat = u + 2 ^ (16 * q) * (t + 65536 * r) := by
      have : val zs = ((u + 2 ^ (16 * q) * (t + 65536 * r) : Nat) : Int) := by rw [e]; simp
      rw [this]; rfl
    rw [e', et, Int.toNat_natCast, Nat.pow_add, ← Nat.div_div_eq_div_mul, Nat.add_mul_div_left _ _ (Nat.pow_pos (by decide)), Nat.div_eq_of_lt h1', Nat.zero_add]
    have e3 : 65536 * r = 2 ^ s * (2 * (2 ^ (15 - s) * r)) := by
      have : 65536 = 2 ^ s * (2 * 2 ^ (15 - s)) := by
        rw [← Nat.pow_succ', ← Nat.pow_add, show s + (15 - s).succ = 16 from by omega]
      rw [this, Nat.mul_assoc, Nat.mul_assoc]
    rw [e3, Nat.add_mul_div_left _ _ (Nat.pow_pos (by decide)), Nat.add_mul_mod_self_left]
  · have hz : zs.getD q 0 = 0 := by simp [List.getD, List.getElem?_eq_none (show zs.length ≤ q from by omega)]
    have h1 := val_lt h
    have h2 := val_nonneg h
    rw [pow_limb] at h1
    have h3 : 2 ^ (16 * zs.length) ≤ 2 ^ (16 * q + s) := Nat.pow_le_pow_right (by decide) (by omega)
    rw [hz, Nat.div_eq_of_lt (by omega)]
    simp

set_option maxHeartbeats 1000000 in
theorem bit_spec {bw : Bool} {lo hi : Nat} {v : Value} {zs : List Int} (w : World) (r : Row .i64 bw lo hi w v zs) (hl : Lim zs) (i : Int) (hi1 : i ≤ 9223372036854775807) (hi0 : -9223372036854775808 ≤ i) :
    Calls Tryd.prog 68 #[.agg #[v], .int .i64 i] w fun e w' => e = .returned (.int .i64 (if i < 0 then 0 else ((val zs).toNat / 2 ^ i.toNat % 2 : Nat))) ∧ Kept 0 0 w w' := by
  have rr := r
  obtain ⟨a, c, rfl, q1, m1, q3⟩ := r
  unfold maxLen at m1
  have hat := (row_cell (rr.kept ((Kept.refl 0 0 w).alloc (.cells #[.slice a zs.length c] 30)) (by omega))).2.2.2
  clear q3 rr
  by_cases h0 : i < 0
  · rw [if_pos h0]
    clear hat
    go_enter Tryd.func68, Tryd.ntmps68
    go_wp2
    go_ret
    exact ⟨rfl, (Kept.refl _ _ _).alloc _⟩
  · rw [if_neg h0]
    obtain ⟨q, s, hs, rfl⟩ : ∃ q s : Nat, s < 16 ∧ i = ((16 * q + s : Nat) : Int) := ⟨i.toNat / 16, i.toNat % 16, by omega, by omega⟩
    rw [Int.toNat_natCast, bit_limb hl q s hs]
    have ed : (((16 * q + s : Nat) : Int)).tdiv 16 = q := by rw [Int.tdiv_eq_ediv_of_nonneg (by omega)]; omega
    have et : (((16 * q + s : Nat) : Int)).tmod 16 = s := by rw [Int.tmod_eq_emod_of_nonneg (by omega)]; omega
    have h0' : decide ((((16 * q + s : Nat) : Int)) < 0) = false := decide_eq_false h0
    have hqr : (q : Int) ≤ 9223372036854775807 := by omega
    by_cases hq : (zs.length : Int) ≤ (q : Int)
    · have hz : zs.getD q 0 = 0 := by simp [List.getD, List.getElem?_eq_none (show zs.length ≤ q from by omega)]
      rw [hz]
      generalize hI : (((16 * q + s : Nat) : Int)) = I at *
      clear hat hI
      go_enter Tryd.func68, Tryd.ntmps68
      go_wp2
      go_ret
      exact ⟨by simp, (Kept.refl _ _ _).alloc _⟩
    · obtain ⟨g, off, rfl, hc⟩ := hat q (by omega)
      obtain ⟨t, ht⟩ : ∃ t : Nat, zs.getD q 0 = t := ⟨(zs.getD q 0).toNat, by have := hl.at q; omega⟩
      have hb := hl.at q
      rw [ht] at hc hb ⊢
      rw [Int.toNat_natCast]
      generalize hI : (((16 * q + s : Nat) : Int)) = I at *
      clear hat hI
      go_enter Tryd.func68, Tryd.ntmps68
      go_wp2
      go_ret
      exact ⟨ret_int (by rw [and_one]), (Kept.refl _ _ _).alloc _⟩

/-- So many noughts at the low end; nought has none. -/
def IsTrail (n t : Nat) : Prop := (n = 0 ∧ t = 0) ∨ (n / 2 ^ t % 2 = 1 ∧ ∀ j, j < t → n / 2 ^ j % 2 = 0)
theorem IsTrail.unique {n s t : Nat} (h1 : IsTrail n s) (h2 : IsTrail n t) : s = t := by
  rcases h1 with ⟨e1, e2⟩ | ⟨a1, a2⟩
  · rcases h2 with ⟨f1, f2⟩ | ⟨b1, b2⟩
    · omega
    · subst e1; simp at b1
  · rcases h2 with ⟨f1, f2⟩ | ⟨b1, b2⟩
    · subst f1; simp at a1
    · rcases Nat.lt_trichotomy s t with h | h | h
      · have := b2 s h; omega
      · exact h
      · have := a2 t h; omega
theorem no_bit {n m : Nat} (h : n < 2 ^ m) (hz : ∀ j, j < m → n / 2 ^ j % 2 = 0) : n = 0 := by
  rcases Nat.eq_zero_or_pos n with h0 | h0
  · exact h0
  · have hb := bitsN_half n h0
    have h1 := (bitsN_le n (bitsN n)).1 (Nat.le_refl _)
    have h2 : ¬ n < 2 ^ (bitsN n - 1) := by rw [← bitsN_le]; omega
    have h3 := (bitsN_le n m).2 h
    have h4 := hz (bitsN n - 1) (by omega)
    have h5 : n / 2 ^ (bitsN n - 1) = 1 := by
      apply Nat.div_eq_of_lt_le
      · omega
      · have : 2 ^ bitsN n = 2 ^ (bitsN n - 1) * 2 := by rw [← Nat.pow_succ]; congr 1; omega
        omega
    omega

set_option maxHeartbeats 1000000 in
theorem trail_spec {bw : Bool} {lo hi : Nat} {v : Value} {zs : List Int} (w : World) (r : Row .i64 bw lo hi w v zs) (hl : Lim zs) (hlen : zs.length ≤ 100000) :
    Calls Tryd.prog 85 #[.agg #[v]] w fun e w' => ∃ t : Nat, e = .returned (.int .i64 t) ∧ IsTrail (val zs).toNat t ∧ Kept 0 0 w w' := by
  have rr := r
  obtain ⟨M, hM⟩ : ∃ M, M = zs.length := ⟨_, rfl⟩
  obtain ⟨a, c, e1, q1, m1, q3⟩ := r
  rw [← hM] at e1 q1 hlen
  subst e1
  unfold maxLen at m1
  clear q3
  have r1 := rr.read.tight.kept ((Kept.refl 0 0 w).alloc (.cells #[.slice a M c] 30)) (by omega)
  have hb1 : (w.alloc (.cells #[.slice a M c] 30)).cell? ⟨w.heap.size, 0, none⟩ = some (.slice a M c) := new_cell_at _ _ _ _ rfl
  have k1 := (Kept.refl 0 0 w).alloc (.cells #[.slice a M c] 30)
  have HV := hide (val_lt hl)
  have HV0 := hide (val_nonneg hl)
  have HM := hide hM
  have HB := hide hb1
  have KK := hide k1
  have HR := hide r1
  clear rr hM hb1 k1 r1
  go_enter Tryd.func85, Tryd.ntmps85
  go_wp2
  generalize w.alloc (.cells #[.slice a M c] 30) = W0 at *
  go_loopw [3] (fun ii wr => ∃ i : Nat, i ≤ 16 * M ∧ ii = .int .i64 (i : Int) ∧ Hid (∀ j, j < i → (val zs).toNat / 2 ^ j % 2 = 0) ∧ Kept 0 0 W0 wr) (fun ii _ => 16 * M - (intOf ii).toNat)
  case atStart => exact ⟨0, Nat.zero_le _, rfl, fun j hj => absurd hj (Nat.not_lt_zero _), Kept.refl _ _ _⟩
  case round =>
    obtain ⟨i, hi1, rfl, hall, hk⟩ := hrel
    have hb1 : wr.cell? ⟨w.heap.size, 0, none⟩ = some (.slice a M c) := by
      rw [← unhide HB]; exact World.cell?_of_block (hk.block w.heap.size (World.block_lt_of_cell? _ _ (unhide HB)) (by omega))
    have HK := hide hk
    by_cases hlt : i < 16 * M
    · have hlt' : (i : Int) < 16 * (M : Int) := by omega
      have r2 := (unhide HR).kept hk (by omega)
      clear hk
      go_wp2_with fail
      refine (bit_spec wr r2 hl (i : Int) (by omega) (by omega)).mono ?_
      rintro e wb ⟨rfl, kb⟩
      have hb2 : wb.cell? ⟨w.heap.size, 0, none⟩ = some (.slice a M c) := by
        rw [← hb1]; exact World.cell?_of_block (kb.block w.heap.size (World.block_lt_of_cell? _ _ hb1) (by omega))
      have KB := hide ((unhide HK).trans kb)
      clear hb1 kb r2
      rw [if_neg (by omega), Int.toNat_natCast]
      have hmod : (val zs).toNat / 2 ^ i % 2 = 0 ∨ (val zs).toNat / 2 ^ i % 2 = 1 := by omega
      rcases hmod with hm | hm
      · have HMd := hide hm
        rw [hm]
        clear hm
        go_wp2
        go_roundw
        case rel => exact ⟨i + 1, by omega, by go_num, fun j hj => by
          rcases Nat.lt_succ_iff_lt_or_eq.1 hj with h | h
          · exact hall.out j h
          · subst h; exact unhide HMd, unhide KB⟩
        case measure => simp [intOf]; omega
      · have HMd := hide hm
        rw [hm]
        clear hm
        go_wp2
        go_ret
        exact ⟨i, rfl, .inr ⟨unhide HMd, fun j hj => hall.out j hj⟩, (unhide KK).trans (unhide KB)⟩
    · have hlt' : ¬ (i : Int) < 16 * (M : Int) := by omega
      have hz : (val zs).toNat = 0 := no_bit (m := 16 * M) (by
        have h1 := unhide HV
        have h2 := unhide HV0
        rw [pow_limb, ← unhide HM] at h1
        omega) (fun j hj => hall.out j (by omega))
      have HZ := hide hz
      clear hk hz
      go_wp2
      go_ret
      exact ⟨0, rfl, .inl ⟨unhide HZ, rfl⟩, (unhide KK).trans (unhide HK)⟩

end Go.Proofs.YtbihbloknmjfjaaDoor
