/-
  Dyadic numbers: the model's l4align, l4cmp and DyCmp.
-/
import Derived.Test.YtlenocminckbkaaDoorDy2
import Derived.Test.YtlenocminckbkaaDoorBK
namespace Go.Proofs.YtlenocminckbkaaDoor
open Go.RowKit
set_option linter.unusedVariables false
set_option maxRecDepth 8000
set_option linter.unusedSimpArgs false

theorem pow_split (m : Int) {x E l : Int} (h : m = 0 ∨ E ≤ x) (hl : l ≤ E) : m * 2 ^ (x - l).toNat = m * 2 ^ (x - E).toNat * 2 ^ (E - l).toNat := by
  rcases h with h | h
  · subst h; simp
  · rw [Int.mul_assoc, ← Int.pow_add, show (x - E).toNat + (E - l).toNat = (x - l).toNat by omega]
theorem cmpI_scale (a b : Int) (k : Nat) : cmpI (a * 2 ^ k) (b * 2 ^ k) = cmpI a b := by
  have hp : (0 : Int) < 2 ^ k := Int.pow_pos (by decide)
  have h1 : a * 2 ^ k < b * 2 ^ k ↔ a < b := ⟨fun h => Int.lt_of_mul_lt_mul_right h (Int.le_of_lt hp), fun h => Int.mul_lt_mul_of_pos_right h hp⟩
  have h2 : b * 2 ^ k < a * 2 ^ k ↔ b < a := ⟨fun h => Int.lt_of_mul_lt_mul_right h (Int.le_of_lt hp), fun h => Int.mul_lt_mul_of_pos_right h hp⟩
  unfold cmpI
  simp only [h1, h2]
/-- What two dyadic numbers are beside one another, by the lower one of their powers of two. -/
def cmpDI (m1 : Int) (x1 : Int) (m2 : Int) (x2 : Int) : Int := cmpI (m1 * 2 ^ (x1 - min x1 x2).toNat) (m2 * 2 ^ (x2 - min x1 x2).toNat)
/-- A power of two that two numbers may be written with. -/
structure Alg (m1 x1 m2 x2 E : Int) : Prop where
  a1 : m1 = 0 ∨ E ≤ x1
  a2 : m2 = 0 ∨ E ≤ x2
  lo : min x1 x2 ≤ E
  hi : E ≤ max x1 x2
theorem cmp_alg {m1 x1 m2 x2 E : Int} (h : Alg m1 x1 m2 x2 E) : cmpI (m1 * 2 ^ (x1 - E).toNat) (m2 * 2 ^ (x2 - E).toNat) = cmpDI m1 x1 m2 x2 := by
  unfold cmpDI
  rw [pow_split m1 h.a1 h.lo, pow_split m2 h.a2 h.lo, cmpI_scale]
theorem wval_nil (b : Bool) : wval b [] = 0 := by cases b <;> rfl
theorem wval_limbs (b : Bool) (n : Nat) : wval b (limbs n) = if b = true then -(n : Int) else (n : Int) := by
  unfold wval; rw [limbs_val]
theorem limbs_shl_len {zs : List Int} (hn : Nrm zs) (hl : zs.length ≤ 100) (k : Nat) (hk : k ≤ 6000) : (limbs ((val zs).toNat * 2 ^ k)).length ≤ 500 := by
  refine (limbs_length_le _ _).2 ?_
  have h1 := val_lt hn.1
  have h2 := val_nonneg hn.1
  rw [pow_limb] at h1
  have h3 : (val zs).toNat < 2 ^ (16 * zs.length) := by omega
  have h4 : (val zs).toNat * 2 ^ k < 2 ^ (16 * zs.length) * 2 ^ k := Nat.mul_lt_mul_of_pos_right h3 (Nat.pow_pos (by decide))
  rw [← Nat.pow_add] at h4
  rw [pow_limb]
  have h5 := Nat.lt_of_lt_of_le h4 (Nat.pow_le_pow_right (n := 2) (by decide) (show 16 * zs.length + k ≤ 16 * 500 by omega))
  omega
theorem limbs_shl_lenW {zs : List Int} (hn : Nrm zs) (hl : zs.length ≤ 3000) (k : Nat) (hk : k ≤ 80000) : (limbs ((val zs).toNat * 2 ^ k)).length ≤ 9000 := by
  refine (limbs_length_le _ _).2 ?_
  have h1 := val_lt hn.1
  have h2 := val_nonneg hn.1
  rw [pow_limb] at h1
  have h3 : (val zs).toNat < 2 ^ (16 * zs.length) := by omega
  have h4 : (val zs).toNat * 2 ^ k < 2 ^ (16 * zs.length) * 2 ^ k := Nat.mul_lt_mul_of_pos_right h3 (Nat.pow_pos (by decide))
  rw [← Nat.pow_add] at h4
  rw [pow_limb]
  have h5 := Nat.lt_of_lt_of_le h4 (Nat.pow_le_pow_right (n := 2) (by decide) (show 16 * zs.length + k ≤ 16 * 9000 by omega))
  omega
/-- A number in its form, with limbs and a power of two that are not too great. -/
def WB (s : Bool) (zs : List Int) (x : Int) : Prop := WN s zs ∧ zs.length ≤ 3000 ∧ -40000 ≤ x ∧ x ≤ 40000
theorem dok_wb {s : Bool} {zs : List Int} {x : Int} (h : dokB s zs x = true) : WB s zs x := by
  obtain ⟨w1, e1, e2, e3, e4⟩ := dok_parts h
  obtain ⟨-, -, lx, -⟩ := wok_int w1
  exact ⟨wok_wn w1, by omega, by omega, by omega⟩
/-- A number that was shifted, made with its sign. -/
theorem shl_wn {s : Bool} {zs : List Int} (h : WN s zs) (hne : 0 < zs.length) (k : Nat) :
    (s && decide (0 < (limbs ((val zs).toNat * 2 ^ k)).length)) = s ∧ limbs (val (limbs ((val zs).toNat * 2 ^ k))).toNat = limbs ((val zs).toNat * 2 ^ k) ∧ WN s (limbs ((val zs).toNat * 2 ^ k)) ∧ wval s (limbs ((val zs).toNat * 2 ^ k)) = wval s zs * 2 ^ k := by
  have h0 := val_nonneg h.1.1
  have hp := nrm_pow h.1 (List.length_pos_iff.1 hne)
  have hp0 : (0 : Int) < 65536 ^ (zs.length - 1) := Int.pow_pos (by decide)
  have hpos : 0 < (val zs).toNat * 2 ^ k := Nat.mul_pos (by omega) (Nat.pow_pos (by decide))
  have hl : 0 < (limbs ((val zs).toNat * 2 ^ k)).length := by
    have := limbs_pos ((val zs).toNat * 2 ^ k)
    rw [decide_eq_true hpos] at this
    exact of_decide_eq_true this
  refine ⟨by rw [decide_eq_true hl, Bool.and_true], by rw [limbs_val, Int.toNat_natCast], ⟨limbs_nrm _, fun _ => hl⟩, ?_⟩
  rw [wval_limbs]
  have hc : (((val zs).toNat * 2 ^ k : Nat) : Int) = val zs * 2 ^ k := by rw [Int.natCast_mul, Int.toNat_of_nonneg h0]; simp
  rw [hc]
  unfold wval
  cases s
  · rfl
  · simp [Int.neg_mul]

end Go.Proofs.YtlenocminckbkaaDoor
