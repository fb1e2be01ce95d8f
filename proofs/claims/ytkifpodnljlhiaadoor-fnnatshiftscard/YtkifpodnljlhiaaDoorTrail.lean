/-
  The program's trail, over the table of math/bits.
-/
import Derived.Test.YtkifpodnljlhiaaDoorBE
import Derived.Test.YtkifpodnljlhiaaDoorBG
import Derived.Lib.TrailingZeros
import Derived.Laws.Bits64b
namespace Go.Proofs.YtkifpodnljlhiaaDoor
open Go.RowKit
set_option linter.unusedVariables false
set_option maxRecDepth 8000
set_option linter.unusedSimpArgs false

/-- The table of math/bits, as its text lays it. -/
def TabB (w : World) : Prop := ∀ j, j < 64 → w.cell? ⟨1, j, none⟩ = some (.int .u8 (Lib.deBruijn64tab.getD j 0))
theorem TabB.lt {w : World} (h : TabB w) : 1 < w.heap.size := World.block_lt_of_cell? _ ⟨1, 0, none⟩ (h 0 (by decide))
theorem TabB.kept {w w' : World} (h : TabB w) (k : Kept 0 0 w w') : TabB w' := fun j hj => k.cell0 (h j hj)
theorem TabB.mod {S : Nat → Prop} {w w' : World} (h : TabB w) (k : Mod S w w') (hS : ¬ S 1) : TabB w' := fun j hj => k.cell (a := ⟨1, j, none⟩) hS (h j hj)

theorem ctz_is (x : Nat) (h0 : x ≠ 0) (h : x < 2 ^ 64) : x / 2 ^ (Lib.ctz 64 x) % 2 = 1 ∧ ∀ j, j < Lib.ctz 64 x → x / 2 ^ j % 2 = 0 := by
  obtain ⟨m, hm, hk⟩ := Lib.ctzFrom_spec 64 x (by omega) h
  have e : Lib.ctz 64 x = Lib.ctzFrom 64 x := by simp [Lib.ctz, h0]
  rw [e]
  generalize Lib.ctzFrom 64 x = k at *
  subst hm
  constructor
  · rw [Nat.mul_div_cancel_left _ (Nat.pow_pos (by decide))]; omega
  · intro j hj
    obtain ⟨d, rfl⟩ : ∃ d, k = j + (d + 1) := ⟨k - j - 1, by omega⟩
    rw [Nat.pow_add, Nat.mul_assoc, Nat.mul_div_cancel_left _ (Nat.pow_pos (by decide)), Nat.pow_succ, Nat.mul_comm (2 ^ d) 2, Nat.mul_assoc]
    omega
theorem ctz_small (x : Nat) (h0 : x ≠ 0) (h : x < 65536) : Lib.ctz 64 x < 16 := by
  have h1 := (ctz_is x h0 (by omega)).1
  rcases Nat.lt_or_ge (Lib.ctz 64 x) 16 with h2 | h2
  · exact h2
  · have : x / 2 ^ (Lib.ctz 64 x) = 0 := Nat.div_eq_of_lt (Nat.lt_of_lt_of_le h (Nat.pow_le_pow_right (n := 2) (by decide) h2))
    rw [this] at h1
    simp at h1

theorem trail_limbs {zs : List Int} (hl : Lim zs) (i : Nat) (hz : ∀ j, j < i → zs.getD j 0 = 0) (h0 : zs.getD i 0 ≠ 0) : IsTrail (val zs).toNat (16 * i + Lib.ctz 64 (zs.getD i 0).toNat) := by
  have hL := hl.at i
  have hc := ctz_small (zs.getD i 0).toNat (by omega) (by omega)
  obtain ⟨c1, c2⟩ := ctz_is (zs.getD i 0).toNat (by omega) (by omega)
  refine .inr ⟨?_, fun j hj => ?_⟩
  · have := bit_limb hl i (Lib.ctz 64 (zs.getD i 0).toNat) hc
    omega
  · obtain ⟨q, s, hs, rfl⟩ : ∃ q s : Nat, s < 16 ∧ j = 16 * q + s := ⟨j / 16, j % 16, by omega, by omega⟩
    have := bit_limb hl q s hs
    by_cases hq : q < i
    · rw [hz q hq] at this
      simp at this
      omega
    · have hqi : q = i := by omega
      subst hqi
      have := c2 s (by omega)
      omega
theorem trail_none {zs : List Int} (hl : Lim zs) (hz : ∀ j, j < zs.length → zs.getD j 0 = 0) : IsTrail (val zs).toNat 0 := by
  refine .inl ⟨no_bit (m := 16 * zs.length) ?_ (fun j hj => ?_), rfl⟩
  · have h1 := val_lt hl
    have h2 := val_nonneg hl
    rw [pow_limb] at h1
    omega
  · obtain ⟨q, s, hs, rfl⟩ : ∃ q s : Nat, s < 16 ∧ j = 16 * q + s := ⟨j / 16, j % 16, by omega, by omega⟩
    have := bit_limb hl q s hs
    rw [hz q (by omega)] at this
    simp at this
    omega

theorem tz_key (x a : Nat) (hx : x < 18446744073709551616) (hx0 : x ≠ 0) (hlow : x &&& (18446744073709551616 - x) = a) :
    IntKind.u64.wrap (bits BinOp.and IntKind.u64 (x : Int) (IntKind.u64.wrap (-(x : Int))) * 285870213051353865) / 288230376151711744 = ((a * 285870213051353865 % 18446744073709551616 / 288230376151711744 : Nat) : Int) := by
  have e1 : IntKind.u64.wrap (-(x : Int)) = ((18446744073709551616 - x : Nat) : Int) := by rw [IntKind.wrap_u64]; omega
  rw [e1, bits_and_u64_nat x _ hx (by omega), hlow, IntKind.wrap_u64]
  omega

set_option maxHeartbeats 1000000 in
theorem tz64_core (x k idx : Nat) (w : World) (hx0 : ((x : Int) == 0) = false)
    (key : IntKind.u64.wrap (bits BinOp.and IntKind.u64 (x : Int) (IntKind.u64.wrap (-(x : Int))) * 285870213051353865) / 288230376151711744 = (idx : Int))
    (hi : idx < 64) (hk : k < 64) (hcell : w.cell? ⟨1, idx, none⟩ = some (.int .u8 k)) :
    Calls Tryd.prog 53 #[.int .u64 (x : Int)] w fun e w' => e = .returned (.int .i64 k) ∧ w' = w := by
  go_enter Tryd.func53, Tryd.ntmps53
  go_wp2_with (simp only [key])
  go_ret
  exact ⟨rfl, rfl⟩

theorem tz64_impl (x : Nat) (h0 : x ≠ 0) (hx : x < 18446744073709551616) (w : World) (T : TabB w) :
    Calls Tryd.prog 53 #[.int .u64 (x : Int)] w fun e w' => e = .returned (.int .i64 (Lib.ctz 64 x)) ∧ w' = w := by
  obtain ⟨hlow, hk⟩ := Lib.lowest_bit 64 x h0 hx
  obtain ⟨hi, htab⟩ := Lib.deBruijn64_at _ hk
  have hcell := T _ hi
  rw [htab] at hcell
  exact tz64_core x _ _ w (by simp; omega) (tz_key x _ hx h0 hlow) hi hk hcell

set_option maxHeartbeats 1000000 in
theorem tz_impl (x : Nat) (h0 : x ≠ 0) (hx : x < 65536) (w : World) (T : TabB w) :
    Calls Tryd.prog 44 #[.int .u64 (x : Int)] w fun e w' => e = .returned (.int .i64 (Lib.ctz 64 x)) ∧ w' = w := by
  have hz := tz64_impl x h0 (by omega) w T
  generalize Lib.ctz 64 x = k at *
  go_enter Tryd.func44, Tryd.ntmps44
  go_wp2_with fail
  refine hz.mono ?_
  rintro e w1 ⟨rfl, rfl⟩
  clear hz T
  go_wp2
  go_ret
  exact ⟨rfl, rfl⟩

set_option maxHeartbeats 4000000 in
theorem trail_impl {b g : Nat} {v : Value} {zs : List Int} (w : World) (h : Work b w g v zs) (hl : Lim zs) (hlen : zs.length ≤ 100000) (T : TabB w) :
    Calls Tryd.prog 29 #[.pointer (some ⟨g, 0, none⟩)] w fun e w' => ∃ t : Nat, e = .returned (.int .i64 t) ∧ IsTrail (val zs).toNat t ∧ w' = w := by
  obtain ⟨M, hM⟩ : ∃ M, M = zs.length := ⟨_, rfl⟩
  obtain ⟨a1, c1, hv⟩ := h.form
  have hc := h.cell
  rw [← hM] at hv
  subst hv
  have HAT := hide (fun j (hj : j < zs.length) => h.at j hj)
  have HM := hide hM
  have HL := hide hl
  have HT := hide T
  have hm1 : M ≤ 100000 := by omega
  clear h hl T hM hlen
  go_enter Tryd.func29, Tryd.ntmps29
  go_wp2
  go_loopw [10] (fun ii wr => ∃ i : Nat, ii = .int .i64 (i : Int) ∧ i ≤ M ∧ Hid (∀ j, j < i → zs.getD j 0 = 0) ∧ wr = w) (fun ii _ => M - (intOf ii).toNat)
  case atStart => exact ⟨0, rfl, Nat.zero_le _, hide (fun j hj => absurd hj (Nat.not_lt_zero _)), rfl⟩
  case round =>
    obtain ⟨i, rfl, hi, hz, hw⟩ := hrel
    obtain rfl : w = wr := hw.symm
    by_cases hA : i < M
    · obtain ⟨g1, off, c, ev, -, hx1, -, -, -⟩ := unhide HAT i (by have := unhide HM; omega)
      rw [← unhide HM] at ev
      cases ev
      have hL := (unhide HL).at i
      have HTR := hide (fun h0 => trail_limbs (unhide HL) i (unhide hz) h0)
      have hi1 : (i : Int) < (M : Int) := by omega
      generalize hzz : zs.getD i 0 = z at *
      have HZZ := hide hzz
      clear hzz
      by_cases h0 : z = 0
      · have hb : (z != 0) = false := by simp [h0]
        have HZ0 := hide h0
        clear h0 HTR
        go_wp2
        go_roundw
        case rel => exact ⟨i + 1, by go_num, by omega, hide (fun j hj => by
          rcases Nat.lt_succ_iff_lt_or_eq.1 hj with h | h
          · exact unhide hz j h
          · subst h; rw [unhide HZZ, unhide HZ0]), trivial⟩
        case measure => simp [intOf]; omega
      · have hb : (z != 0) = true := by simp [h0]
        obtain ⟨x, hx⟩ : ∃ x : Nat, z = (x : Int) := ⟨z.toNat, by omega⟩
        have hx0 : x ≠ 0 := by omega
        have hx1' : x < 65536 := by omega
        have htr := unhide HTR h0
        rw [hx, Int.toNat_natCast] at htr
        have TZ := hide (tz_impl x hx0 hx1' w (unhide HT))
        have hct := ctz_small x hx0 hx1'
        generalize Lib.ctz 64 x = k at *
        have HTT := hide htr
        have hwu : IntKind.u64.wrap z = (x : Int) := by rw [hx, IntKind.wrap_u64]; omega
        have hw1 : IntKind.i64.wrap (16 * (i : Int)) = 16 * (i : Int) := by rw [IntKind.wrap_i64]; omega
        have hw2 : IntKind.i64.wrap (16 * (i : Int) + (k : Int)) = ((16 * i + k : Nat) : Int) := by rw [IntKind.wrap_i64]; omega
        clear htr HTR h0 hx
        go_wp2_with fail
        refine (unhide TZ).mono ?_
        rintro e w1 ⟨rfl, rfl⟩
        go_wp2
        go_ret
        exact ⟨16 * i + k, rfl, unhide HTT, rfl⟩
    · have hiM : i = M := by omega
      have HTR : Hid (IsTrail (val zs).toNat 0) := trail_none (unhide HL) (fun j hj => unhide hz j (by have := unhide HM; omega))
      have hi1 : ¬ (i : Int) < (M : Int) := by omega
      clear hiM
      go_wp2
      go_ret
      exact ⟨0, rfl, unhide HTR, rfl⟩

end Go.Proofs.YtkifpodnljlhiaaDoor
