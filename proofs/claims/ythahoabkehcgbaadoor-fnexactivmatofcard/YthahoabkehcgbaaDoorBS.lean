/-
  Contracts that the proofs of this seat share: Dy8, Dy9, Dy10, Dy11.
-/
import Derived.Test.YthahoabkehcgbaaDoorDy7
import Derived.Deep.DeepCutAuto
namespace Go.Proofs.YthahoabkehcgbaaDoor
open Go.RowKit
set_option linter.unusedVariables false
set_option maxRecDepth 8000
set_option linter.unusedSimpArgs false

theorem d_ok {s : Bool} {zs : List Int} {x : Int} (h : dokB s zs x = true) (m : Int) (hm : m.natAbs = (val zs).toNat) : ansDB true m x = true ∧ ansDS true m x = wsg m ∧ ansDL true m x = zs ∧ ansDE true m x = x := by
  obtain ⟨e1, e2⟩ := d_form h m hm
  obtain ⟨h1, h2, h3, -, -⟩ := dok_parts h
  obtain ⟨-, -, hl, -⟩ := wok_int h1
  have hb : ansDB true m x = true := by
    unfold ansDB
    rw [dok_told, e1, e2, decide_eq_true hl, decide_eq_true h2, decide_eq_true h3]
    rfl
  obtain ⟨b1, b2, b3⟩ := ansD_yes hb
  exact ⟨hb, b1, by rw [b2, e1], by rw [b3, e2]⟩
theorem neg_abs {s : Bool} {zs : List Int} (h : Lim zs) : (-wval s zs).natAbs = (val zs).toNat := by rw [Int.natAbs_neg, wval_abs h]
theorem wn_neg {s : Bool} {zs : List Int} (h : Nrm zs) (h0 : 0 < zs.length) (t : Bool) : WN t zs := ⟨h, fun _ => h0⟩
theorem wlm_neg {s : Bool} {zs : List Int} (h : Nrm zs) : wlm (-wval s zs) = zs := by unfold wlm; rw [neg_abs h.1]; exact (nrm_limbs h).symm
theorem wval_not (s : Bool) (zs : List Int) : wval (!s) zs = -wval s zs := by unfold wval; cases s <;> simp
/-- May it be shifted so far? -/
def l4eB (k : Int) : Bool := decide (-12000 ≤ k) && decide (k ≤ 12000)

end Go.Proofs.YthahoabkehcgbaaDoor

namespace Go.Proofs.YthahoabkehcgbaaDoor
open Go.RowKit
set_option linter.unusedVariables false
set_option maxRecDepth 8000
set_option linter.unusedSimpArgs false

theorem fits_ans {c : Bool} (hc : c = true) (m x : Int) : (dokB (wsg m) (dlm m) (dex m x) && wsg m) = ansDS c m x ∧ (if dokB (wsg m) (dlm m) (dex m x) = true then dex m x else 0) = ansDE c m x ∧ dokB (wsg m) (dlm m) (dex m x) = ansDB c m x ∧ (if dokB (wsg m) (dlm m) (dex m x) = true then dlm m else []) = ansDL c m x := by
  subst hc; exact ⟨rfl, rfl, rfl, rfl⟩
theorem dex_range (m x : Int) (h1 : x ≤ 1000000) (h0 : -1000000 ≤ x) {K : Nat} (hm : m.natAbs < 2 ^ K) (hK : K ≤ 800000) : dex m x ≤ 9223372036854775807 ∧ -9223372036854775808 ≤ dex m x := by
  unfold dex
  split
  · omega
  · rename_i h
    have := tz_lt (n := m.natAbs) (by omega) hm
    omega
theorem wval_lt {s : Bool} {zs : List Int} (h : Lim zs) : (wval s zs).natAbs < 2 ^ (16 * zs.length) := by
  rw [wval_abs h]
  have h1 := val_lt h
  have h2 := val_nonneg h
  rw [pow_limb] at h1
  omega
/-- A number that is odd, or nought, elsewhere. -/
theorem shift_form {s : Bool} {zs : List Int} {x : Int} (h : dokB s zs x = true) (h0 : 0 < zs.length) (k : Int) : dlm (wval s zs) = zs ∧ dex (wval s zs) (x + k) = x + k ∧ wsg (wval s zs) = s := by
  have hw := wok_wn (dok_parts h).1
  obtain ⟨e1, e2⟩ := d_form h (wval s zs) (wval_abs hw.1.1)
  refine ⟨e1, ?_, wn_sign hw⟩
  have hne := (shr_wn hw h0).2.2
  unfold dex at e2 ⊢
  rw [if_neg hne] at e2 ⊢
  omega
theorem shift_zero (x : Int) : ansDB true 0 x = true ∧ ansDS true 0 x = false ∧ ansDL true 0 x = [] ∧ ansDE true 0 x = 0 := by
  have hb : ansDB true 0 x = true := by unfold ansDB; rw [dlm_zero]; simp [dex]; rfl
  obtain ⟨b1, b2, b3⟩ := ansD_yes hb
  exact ⟨hb, by rw [b1]; rfl, by rw [b2, dlm_zero], by rw [b3]; simp [dex]⟩

end Go.Proofs.YthahoabkehcgbaaDoor

namespace Go.Proofs.YthahoabkehcgbaaDoor
open Go.RowKit
set_option linter.unusedVariables false
set_option maxRecDepth 8000
set_option linter.unusedSimpArgs false

theorem wn_int (m : Int) : WN (wsg m) (wlm m) := by
  refine ⟨limbs_nrm _, fun h => ?_⟩
  have h1 : m < 0 := of_decide_eq_true h
  have := limbs_pos m.natAbs
  rw [decide_eq_true (show 0 < m.natAbs by omega)] at this
  exact of_decide_eq_true this
theorem wlm_len {m : Int} {A n : Nat} (h : m.natAbs < 2 ^ A) (hn : A ≤ 16 * n) : (wlm m).length ≤ n := by
  refine (limbs_length_le _ _).2 ?_
  rw [pow_limb]
  have := Nat.lt_of_lt_of_le h (Nat.pow_le_pow_right (n := 2) (by decide) hn)
  omega
theorem mul_lt {a b : Int} {A E : Nat} (ha : a.natAbs < 2 ^ A) (hb : b.natAbs < 2 ^ E) : (a * b).natAbs < 2 ^ (A + E) := by
  rw [Int.natAbs_mul, Nat.pow_add]
  exact Nat.mul_lt_mul'' ha hb
theorem add_lt {a b : Int} {A : Nat} (ha : a.natAbs < 2 ^ A) (hb : b.natAbs < 2 ^ A) : (a + b).natAbs < 2 ^ (A + 1) := by
  have := Int.natAbs_add_le a b
  rw [Nat.pow_succ]
  omega
theorem neg_lt {a : Int} {A : Nat} (ha : a.natAbs < 2 ^ A) : (-a).natAbs < 2 ^ A := by rw [Int.natAbs_neg]; exact ha
theorem shl_lt {a : Int} {A : Nat} (k : Nat) (ha : a.natAbs < 2 ^ A) : (a * 2 ^ k).natAbs < 2 ^ (A + k) := by
  rw [Int.natAbs_mul, Int.natAbs_pow, Nat.pow_add]
  exact Nat.mul_lt_mul_of_pos_right ha (Nat.pow_pos (by decide))
theorem lt_up {n A E : Nat} (h : n < 2 ^ A) (hl : A ≤ E) : n < 2 ^ E := Nat.lt_of_lt_of_le h (Nat.pow_le_pow_right (by decide) hl)
/-- Two numbers at one power of two are small enough. -/
theorem al_lt {s : Bool} {zs : List Int} (h : Lim zs) (hl : zs.length ≤ 100) (k : Nat) (hk : k ≤ 6000) {A : Nat} (hA : A = 7600) : (wval s zs * 2 ^ k).natAbs < 2 ^ A :=
  lt_up (shl_lt k (wval_lt h)) (by omega)
theorem alg_le {m1 x1 m2 x2 E : Int} (h : Alg m1 x1 m2 x2 E) (h1 : -3000 ≤ x1) (h2 : x1 ≤ 3000) (h3 : -3000 ≤ x2) (h4 : x2 ≤ 3000) : (x1 - E).toNat ≤ 6000 ∧ (x2 - E).toNat ≤ 6000 ∧ -3000 ≤ E ∧ E ≤ 3000 := by
  have := h.lo
  have := h.hi
  omega
theorem al_ltW {s : Bool} {zs : List Int} (h : Lim zs) (hl : zs.length ≤ 3000) (k : Nat) (hk : k ≤ 80000) {A : Nat} (hA : A = 128000) : (wval s zs * 2 ^ k).natAbs < 2 ^ A :=
  lt_up (shl_lt k (wval_lt h)) (by omega)
theorem alg_leW {m1 x1 m2 x2 E : Int} (h : Alg m1 x1 m2 x2 E) (h1 : -40000 ≤ x1) (h2 : x1 ≤ 40000) (h3 : -40000 ≤ x2) (h4 : x2 ≤ 40000) : (x1 - E).toNat ≤ 80000 ∧ (x2 - E).toNat ≤ 80000 ∧ -40000 ≤ E ∧ E ≤ 40000 := by
  have := h.lo
  have := h.hi
  omega
theorem sum_alg {m1 x1 m2 x2 E : Int} (h : Alg m1 x1 m2 x2 E) : (m1 * 2 ^ (x1 - E).toNat + m2 * 2 ^ (x2 - E).toNat) * 2 ^ (E - min x1 x2).toNat = m1 * 2 ^ (x1 - min x1 x2).toNat + m2 * 2 ^ (x2 - min x1 x2).toNat := by
  rw [Int.add_mul, ← pow_split m1 h.a1 h.lo, ← pow_split m2 h.a2 h.lo]
/-- A sum in its one form does not hang on the power of two that both are written with. -/
theorem sum_form {m1 x1 m2 x2 E : Int} (h : Alg m1 x1 m2 x2 E) : dlm (m1 * 2 ^ (x1 - E).toNat + m2 * 2 ^ (x2 - E).toNat) = dlm (m1 * 2 ^ (x1 - min x1 x2).toNat + m2 * 2 ^ (x2 - min x1 x2).toNat) ∧ dex (m1 * 2 ^ (x1 - E).toNat + m2 * 2 ^ (x2 - E).toNat) E = dex (m1 * 2 ^ (x1 - min x1 x2).toNat + m2 * 2 ^ (x2 - min x1 x2).toNat) (min x1 x2) ∧ wsg (m1 * 2 ^ (x1 - E).toNat + m2 * 2 ^ (x2 - E).toNat) = wsg (m1 * 2 ^ (x1 - min x1 x2).toNat + m2 * 2 ^ (x2 - min x1 x2).toNat) := by
  obtain ⟨e1, e2, e3⟩ := d_shift (m1 * 2 ^ (x1 - E).toNat + m2 * 2 ^ (x2 - E).toNat) E (E - min x1 x2).toNat
  rw [sum_alg h] at e1 e2 e3
  have hl := h.lo
  rw [show E - ((E - min x1 x2).toNat : Int) = min x1 x2 by omega] at e2
  exact ⟨e1.symm, e2.symm, e3.symm⟩
/-- The opposite of a number that may be is one. -/
theorem dok_neg {s : Bool} {zs : List Int} {x : Int} (h : dokB s zs x = true) : dokB (wsg (-wval s zs)) (wlm (-wval s zs)) x = true ∧ wval (wsg (-wval s zs)) (wlm (-wval s zs)) = -wval s zs := by
  have hn := (wok_int (dok_parts h).1).2.2.2
  obtain ⟨e1, e2⟩ := d_form h (-wval s zs) (neg_abs hn.1)
  obtain ⟨b0, -, -, -⟩ := d_ok h (-wval s zs) (neg_abs hn.1)
  unfold ansDB at b0
  rw [e1, e2, Bool.true_and] at b0
  rw [wlm_neg hn]
  refine ⟨b0, ?_⟩
  have := wval_int (-wval s zs)
  rw [wlm_neg hn] at this
  exact this

end Go.Proofs.YthahoabkehcgbaaDoor

namespace Go.Proofs.YthahoabkehcgbaaDoor
open Go.RowKit
set_option linter.unusedVariables false
set_option maxRecDepth 8000
set_option linter.unusedSimpArgs false

theorem shl_val (s : Bool) {zs : List Int} (h : Nrm zs) (k : Nat) : wval s (limbs ((val zs).toNat * 2 ^ k)) = wval s zs * 2 ^ k := by
  rw [wval_limbs]
  have h0 := val_nonneg h.1
  have hc : (((val zs).toNat * 2 ^ k : Nat) : Int) = val zs * 2 ^ k := by rw [Int.natCast_mul, Int.toNat_of_nonneg h0]; simp
  rw [hc]
  unfold wval
  cases s
  · rfl
  · simp [Int.neg_mul]
theorem nrm_len {s : Bool} {zs : List Int} (h : Nrm zs) {A n : Nat} (hv : (wval s zs).natAbs < 2 ^ A) (hn : A ≤ 16 * n) : zs.length ≤ n := by
  have := wlm_len hv hn
  unfold wlm at this
  rw [wval_abs h.1, ← nrm_limbs h] at this
  exact this

end Go.Proofs.YthahoabkehcgbaaDoor
