/-
  The program's trail, over the table of math/bits.
-/
import Derived.Test.YtededkklgfhabaaNat10
import Derived.Test.YtededkklgfhabaaINat19
import Derived.Lib.TrailingZeros
import Derived.Laws.Bits64b
namespace Go.Proofs.Ytededkklgfhabaa
open Go.RowKit
set_option linter.unusedVariables false
set_option maxRecDepth 8000
set_option linter.unusedSimpArgs false

/-- The table of math/bits, as its text lays it. -/
def TabB (w : World) : Prop := ∀ j, j < 64 → w.cell? ⟨2, j, none⟩ = some (.int .u8 (Lib.deBruijn64tab.getD j 0))
theorem TabB.lt {w : World} (h : TabB w) : 2 < w.heap.size := World.block_lt_of_cell? _ ⟨2, 0, none⟩ (h 0 (by decide))
theorem TabB.kept {w w' : World} (h : TabB w) (k : Kept 0 0 w w') : TabB w' := fun j hj => k.cell0 (h j hj)
theorem TabB.mod {S : Nat → Prop} {w w' : World} (h : TabB w) (k : Mod S w w') (hS : ¬ S 2) : TabB w' := fun j hj => k.cell (a := ⟨2, j, none⟩) hS (h j hj)

theorem ctz_is (x : Nat) (h0 : x ≠ 0) (h : x < 2 ^ 64) : x / 2 ^ (Lib.ctz 64 x) % 2 = 1 ∧ ∀ j, j < Lib.ctz 64 x → x / 2 ^ j % 2 = 0 := by
  obtain ⟨m, hm, hk⟩ := Lib.ctzFrom_spec 64 x (by omega) h
  have e : Lib.ctz 64 x = Lib.ctzFrom 64 x := by simp [Lib.ctz, h0]
  rw [e]
  generalize Lib.ctzFrom 64 x = k at *
  subst hm
  constructor
  · rw [Nat.mul_div_cancel_left _ (Nat.pow_pos (by decide))]; omega
  · intro j hj
    obtain ⟨d, rfl⟩ : ∃ d, k = j + (d + 1) := ⟨k - j - 1, by omega⟩
    rw [Nat.pow_add, Nat.mul_assoc, Nat.mul_div_cancel_left _ (Nat.pow_pos (by decide)), Nat.pow_succ, Nat.mul_comm (2 ^ d) 2, Nat.mul_assoc]
    omega
theorem ctz_small (x : Nat) (h0 : x ≠ 0) (h : x < 65536) : Lib.ctz 64 x < 16 := by
  have h1 := (ctz_is x h0 (by omega)).1
  rcases Nat.lt_or_ge (Lib.ctz 64 x) 16 with h2 | h2
  · exact h2
  · have : x / 2 ^ (Lib.ctz 64 x) = 0 := Nat.div_eq_of_lt (Nat.lt_of_lt_of_le h (Nat.pow_le_pow_right (n := 2) (by decide) h2))
    rw [this] at h1
    simp at h1

theorem trail_limbs {zs : List Int} (hl : Lim zs) (i : Nat) (hz : ∀ j, j < i → zs.getD j 0 = 0) (h0 : zs.getD i 0 ≠ 0) : IsTrail (val zs).toNat (16 * i + Lib.ctz 64 (zs.getD i 0).toNat) := by
  have hL := hl.at i
  have hc := ctz_small (zs.getD i 0).toNat (by omega) (by omega)
  obtain ⟨c1, c2⟩ := ctz_is (zs.getD i 0).toNat (by omega) (by omega)
  refine .inr ⟨?_, fun j hj => ?_⟩
  · have := bit_limb hl i (Lib.ctz 64 (zs.getD i 0).toNat) hc
    omega
  · obtain ⟨q, s, hs, rfl⟩ : ∃ q s : Nat, s < 16 ∧ j = 16 * q + s := ⟨j / 16, j % 16, by omega, by omega⟩
    have := bit_limb hl q s hs
    by_cases hq : q < i
    · rw [hz q hq] at this
      simp at this
      omega
    · have hqi : q = i := by omega
      subst hqi
      have := c2 s (by omega)
      omega
theorem trail_none {zs : List Int} (hl : Lim zs) (hz : ∀ j, j < zs.length → zs.getD j 0 = 0) : IsTrail (val zs).toNat 0 := by
  refine .inl ⟨no_bit (m := 16 * zs.length) ?_ (fun j hj => ?_), rfl⟩
  · have h1 := val_lt hl
    have h2 := val_nonneg hl
    rw [pow_limb] at h1
    omega
  · obtain ⟨q, s, hs, rfl⟩ : ∃ q s : Nat, s < 16 ∧ j = 16 * q + s := ⟨j / 16, j % 16, by omega, by omega⟩
    have := bit_limb hl q s hs
    rw [hz q (by omega)] at this
    simp at this
    omega

theorem tz_key (x a : Nat) (hx : x < 18446744073709551616) (hx0 : x ≠ 0) (hlow : x &&& (18446744073709551616 - x) = a) :
    IntKind.u64.wrap (bits BinOp.and IntKind.u64 (x : Int) (IntKind.u64.wrap (-(x : Int))) * 285870213051353865) / 288230376151711744 = ((a * 285870213051353865 % 18446744073709551616 / 288230376151711744 : Nat) : Int) := by
  have e1 : IntKind.u64.wrap (-(x : Int)) = ((18446744073709551616 - x : Nat) : Int) := by rw [IntKind.wrap_u64]; omega
  rw [e1, bits_and_u64_nat x _ hx (by omega), hlow, IntKind.wrap_u64]
  omega

end Go.Proofs.Ytededkklgfhabaa
