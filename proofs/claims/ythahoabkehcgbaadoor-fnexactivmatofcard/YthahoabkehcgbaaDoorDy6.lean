/-
  Dyadic numbers: a number in its one form; the model's l4make and l4fits.
-/
import Derived.Test.YthahoabkehcgbaaDoorDy3
import Derived.Test.YthahoabkehcgbaaDoorBK
namespace Go.Proofs.YthahoabkehcgbaaDoor
open Go.RowKit
set_option linter.unusedVariables false
set_option maxRecDepth 8000
set_option linter.unusedSimpArgs false

/-- The limbs and the power of two of a dyadic number m times 2^x in its one form. -/
def dlm (m : Int) : List Int := limbs (m.natAbs / 2 ^ tz m.natAbs)
def dex (m x : Int) : Int := if m = 0 then 0 else x + (tz m.natAbs : Int)
theorem dlm_zero : dlm 0 = [] := by simp [dlm, limbs_zero]
theorem dlm_pos {m : Int} (h : m ≠ 0) : 0 < (dlm m).length ∧ val (dlm m) % 2 = 1 := by
  obtain ⟨h1, h2⟩ := odd_part (n := m.natAbs) (by omega)
  constructor
  · have := limbs_pos (m.natAbs / 2 ^ tz m.natAbs)
    rw [decide_eq_true h2] at this
    exact of_decide_eq_true this
  · unfold dlm; rw [limbs_val]; omega
theorem d_shift (m x : Int) (k : Nat) : dlm (m * 2 ^ k) = dlm m ∧ dex (m * 2 ^ k) (x - k) = dex m x ∧ wsg (m * 2 ^ k) = wsg m := by
  by_cases h : m = 0
  · subst h; simp [dlm, dex, wsg]
  · have hp : (0 : Int) < 2 ^ k := Int.pow_pos (by decide)
    have e1 : (m * 2 ^ k).natAbs = m.natAbs * 2 ^ k := by rw [Int.natAbs_mul, Int.natAbs_pow]; rfl
    obtain ⟨t1, t2⟩ := tz_shift (n := m.natAbs) (by omega) k
    have h' : m * 2 ^ k ≠ 0 := Int.mul_ne_zero h (by omega)
    refine ⟨by unfold dlm; rw [e1, t1, t2], by unfold dex; rw [if_neg h, if_neg h', e1, t1]; omega, ?_⟩
    unfold wsg
    by_cases hm : m < 0
    · rw [decide_eq_true hm]; exact decide_eq_true (Int.mul_neg_of_neg_of_pos hm hp)
    · have := Int.mul_nonneg (show 0 ≤ m by omega) (Int.le_of_lt hp)
      rw [decide_eq_false hm]; exact decide_eq_false (by omega)
/-- What is told: a dyadic number m times 2^x, if it is to be told and may be. -/
def ansDB (c : Bool) (m x : Int) : Bool := c && dokB (wsg m) (dlm m) (dex m x)
def ansDS (c : Bool) (m x : Int) : Bool := ansDB c m x && wsg m
def ansDL (c : Bool) (m x : Int) : List Int := if ansDB c m x = true then dlm m else []
def ansDE (c : Bool) (m x : Int) : Int := if ansDB c m x = true then dex m x else 0
theorem ansDB_no {c : Bool} {m x : Int} (h : c = false) : ansDB c m x = false := by unfold ansDB; rw [h]; rfl
theorem ansD_no {c : Bool} {m x : Int} (h : ansDB c m x = false) : ansDS c m x = false ∧ ansDL c m x = [] ∧ ansDE c m x = 0 := by
  unfold ansDS ansDL ansDE; rw [h]; exact ⟨rfl, rfl, rfl⟩
theorem ansD_yes {c : Bool} {m x : Int} (h : ansDB c m x = true) : ansDS c m x = wsg m ∧ ansDL c m x = dlm m ∧ ansDE c m x = dex m x := by
  unfold ansDS ansDL ansDE; rw [h]; exact ⟨rfl, rfl, rfl⟩
theorem ansDL_len (c : Bool) (m x : Int) : (ansDL c m x).length ≤ 100 := by
  unfold ansDL
  split
  · rename_i h
    unfold ansDB at h
    rw [Bool.and_eq_true] at h
    exact (wok_int (dok_parts h.2).1).2.2.1
  · simp
theorem ansD_shift (c : Bool) (m x : Int) (k : Nat) : ansDB c (m * 2 ^ k) (x - k) = ansDB c m x ∧ ansDS c (m * 2 ^ k) (x - k) = ansDS c m x ∧ ansDL c (m * 2 ^ k) (x - k) = ansDL c m x ∧ ansDE c (m * 2 ^ k) (x - k) = ansDE c m x := by
  obtain ⟨e1, e2, e3⟩ := d_shift m x k
  unfold ansDS ansDL ansDE ansDB
  rw [e1, e2, e3]
  exact ⟨rfl, rfl, rfl, rfl⟩
theorem wval_abs {s : Bool} {zs : List Int} (h : Lim zs) : (wval s zs).natAbs = (val zs).toNat := by
  have := val_nonneg h
  unfold wval; split <;> omega
/-- What is odd, or nought, is in its one form. -/
theorem d_form {s : Bool} {zs : List Int} {x : Int} (h : dokB s zs x = true) (m : Int) (hm : m.natAbs = (val zs).toNat) : dlm m = zs ∧ dex m x = x := by
  obtain ⟨h1, -, -, h4, h5⟩ := dok_parts h
  obtain ⟨-, -, -, hn⟩ := wok_int h1
  have h0 := val_nonneg hn.1
  have hl := nrm_limbs hn
  by_cases hz : zs = []
  · subst hz
    have hm0 : m = 0 := by simp [val] at hm; omega
    subst hm0
    exact ⟨dlm_zero, by unfold dex; rw [if_pos rfl]; exact (h4 rfl).symm⟩
  · have ho := h5 hz
    have t := tz_odd (n := m.natAbs) (by omega)
    refine ⟨by unfold dlm; rw [t, hm]; simpa using hl.symm, by unfold dex; rw [if_neg (by omega), t]; simp⟩
theorem wn_sign {s : Bool} {zs : List Int} (h : WN s zs) : wsg (wval s zs) = s := by
  have := h.int.1
  unfold wsg; exact this.symm
/-- A number that was made odd, with its sign. -/
theorem shr_wn {s : Bool} {zs : List Int} (h : WN s zs) (hne : 0 < zs.length) :
    (s && decide (0 < (limbs ((val zs).toNat / 2 ^ tz (val zs).toNat)).length)) = wsg (wval s zs) ∧ limbs (val (limbs ((val zs).toNat / 2 ^ tz (val zs).toNat))).toNat = dlm (wval s zs) ∧ wval s zs ≠ 0 := by
  have h0 := val_nonneg h.1.1
  have hp := nrm_pow h.1 (List.length_pos_iff.1 hne)
  have hp0 : (0 : Int) < 65536 ^ (zs.length - 1) := Int.pow_pos (by decide)
  have hv : wval s zs ≠ 0 := by have := wval_abs (s := s) h.1.1; omega
  have e : dlm (wval s zs) = limbs ((val zs).toNat / 2 ^ tz (val zs).toNat) := by unfold dlm; rw [wval_abs h.1.1]
  have hl := (dlm_pos hv).1
  rw [e] at hl
  refine ⟨by rw [decide_eq_true hl, Bool.and_true, wn_sign h], by rw [limbs_val, Int.toNat_natCast, e], hv⟩

end Go.Proofs.YthahoabkehcgbaaDoor
