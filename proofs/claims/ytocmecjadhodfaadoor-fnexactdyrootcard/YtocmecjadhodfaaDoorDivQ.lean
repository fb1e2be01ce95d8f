/-
  A quotient that is cut: the program's halves (at low - 1) against the model's number with one bit that tells of others (at low - 3).
-/
import Derived.Test.YtocmecjadhodfaaDoorBR
import Derived.Test.YtocmecjadhodfaaDoorFlNm
namespace Go.Proofs.YtocmecjadhodfaaDoor
open Go.RowKit
set_option linter.unusedVariables false

def quoX (V : Nat) (k : Int) : Nat := V * 2 ^ k.toNat
def quoN (V Y : Nat) (k : Int) : Nat := quoX V k / quoX Y (-k)
def quoL (V Y : Nat) (k : Int) : Bool := decide (quoX V k % quoX Y (-k) ≠ 0)
def quoQ (V Y : Nat) (k : Int) : Nat := 2 * quoN V Y k + (if quoL V Y k = true then 1 else 0)

theorem quo_half (a y : Nat) (hy : 0 < y) : (2 * a / y) / 2 = a / y ∧ ((2 * a / y) % 2 ≠ 0 ∨ 2 * a % y ≠ 0 ↔ a % y ≠ 0) := by
  have e : (2 * a / y) / 2 = a / y := by rw [Nat.div_div_eq_div_mul, Nat.mul_comm y 2, Nat.mul_div_mul_left _ _ (by omega)]
  refine ⟨e, ?_⟩
  have d1 := Nat.div_add_mod (2 * a) y
  have d2 := Nat.div_add_mod a y
  have l2 := Nat.mod_lt a hy
  have l1 := Nat.mod_lt (2 * a) hy
  obtain ⟨q, hq⟩ : ∃ q, q = 2 * a / y := ⟨_, rfl⟩
  obtain ⟨p, hp⟩ : ∃ p, p = a / y := ⟨_, rfl⟩
  obtain ⟨r, hr⟩ : ∃ r, r = 2 * a % y := ⟨_, rfl⟩
  obtain ⟨s, hs⟩ : ∃ s, s = a % y := ⟨_, rfl⟩
  rw [← hq, ← hr] at d1; rw [← hp, ← hs] at d2; rw [← hq, ← hp] at e; rw [← hr] at l1; rw [← hs] at l2
  rw [← hq, ← hr, ← hs]
  have c : q = 2 * p ∨ q = 2 * p + 1 := by omega
  rcases c with c | c
  · rw [c] at d1; rw [show y * (2 * p) = 2 * (y * p) by rw [Nat.mul_left_comm]] at d1; omega
  · rw [c, Nat.mul_add, show y * (2 * p) = 2 * (y * p) by rw [Nat.mul_left_comm]] at d1; omega

theorem quo_half' (a y : Nat) (hy : 0 < y) : (a / y) / 2 = a / (2 * y) ∧ ((a / y) % 2 ≠ 0 ∨ a % y ≠ 0 ↔ a % (2 * y) ≠ 0) := by
  have e : (a / y) / 2 = a / (2 * y) := by rw [Nat.div_div_eq_div_mul, Nat.mul_comm y 2]
  refine ⟨e, ?_⟩
  have d1 := Nat.div_add_mod a y
  have d2 := Nat.div_add_mod a (2 * y)
  have l2 := Nat.mod_lt a (show 0 < 2 * y by omega)
  have l1 := Nat.mod_lt a hy
  obtain ⟨q, hq⟩ : ∃ q, q = a / y := ⟨_, rfl⟩
  obtain ⟨p, hp⟩ : ∃ p, p = a / (2 * y) := ⟨_, rfl⟩
  obtain ⟨r, hr⟩ : ∃ r, r = a % y := ⟨_, rfl⟩
  obtain ⟨s, hs⟩ : ∃ s, s = a % (2 * y) := ⟨_, rfl⟩
  rw [← hq, ← hr] at d1; rw [← hp, ← hs] at d2; rw [← hq, ← hp] at e; rw [← hr] at l1; rw [← hs] at l2
  rw [← hq, ← hr, ← hs]
  rw [Nat.mul_assoc] at d2
  have c : q = 2 * p ∨ q = 2 * p + 1 := by omega
  rcases c with c | c
  · rw [c] at d1; rw [show y * (2 * p) = 2 * (y * p) by rw [Nat.mul_left_comm]] at d1; omega
  · rw [c, Nat.mul_add, show y * (2 * p) = 2 * (y * p) by rw [Nat.mul_left_comm]] at d1; omega

/-- one bit more: half of the finer quotient is the quotient; what is left over is told by that bit or by the finer rest. -/
theorem quo_step (V Y : Nat) (hY : 0 < Y) (k : Int) : quoN V Y (k + 1) / 2 = quoN V Y k ∧ (quoN V Y (k + 1) % 2 ≠ 0 ∨ quoL V Y (k + 1) = true ↔ quoL V Y k = true) := by
  unfold quoN quoL quoX
  by_cases hk : 0 ≤ k
  · have e1 : (k + 1).toNat = k.toNat + 1 := by omega
    have e2 : (-(k + 1)).toNat = 0 := by omega
    have e3 : (-k).toNat = 0 := by omega
    rw [e1, e2, e3, Nat.pow_succ, ← Nat.mul_assoc, Nat.mul_comm (V * 2 ^ k.toNat) 2]
    simp only [decide_eq_true_eq]
    exact quo_half _ _ (by simpa using hY)
  · have e1 : (k + 1).toNat = 0 := by omega
    have e3 : k.toNat = 0 := by omega
    have e2 : (-k).toNat = (-(k + 1)).toNat + 1 := by omega
    rw [e1, e3, e2, Nat.pow_succ, ← Nat.mul_assoc, Nat.mul_comm (Y * 2 ^ (-(k + 1)).toNat) 2]
    simp only [decide_eq_true_eq]
    exact quo_half' _ _ (Nat.mul_pos hY (Nat.two_pow_pos _))

/-- the model's number, cut to halves, is the program's cut. -/
theorem quo_cut (V Y : Nat) (hY : 0 < Y) (k : Int) : scN (quoQ V Y (k + 1)) (-2) = quoN V Y k ∧ scL (quoQ V Y (k + 1)) (-2) = quoL V Y k := by
  obtain ⟨h1, h2⟩ := quo_step V Y hY k
  have a1 := scN_down (quoQ V Y (k + 1)) 2 (by omega)
  have a2 := scL_down (quoQ V Y (k + 1)) 2 (by omega)
  rw [show (-2 : Int) = -((2 : Nat) : Int) by rfl, a1, a2]
  unfold quoQ
  generalize quoN V Y (k + 1) = q at h1 h2
  cases hL : quoL V Y (k + 1) <;> rw [hL] at h2
  · simp only [Bool.false_eq_true, ite_false, or_false] at h2 ⊢
    refine ⟨by omega, ?_⟩
    cases hR : quoL V Y k <;> rw [hR] at h2 <;> simp at h2 ⊢ <;> omega
  · simp only [ite_true, or_true, true_iff] at h2 ⊢
    rw [h2]
    refine ⟨by omega, ?_⟩
    simp; omega

theorem quo_zero (Y : Nat) (k : Int) : quoN 0 Y k = 0 ∧ quoL 0 Y k = false := by
  unfold quoN quoL quoX; simp

/-- the model's number in its one form: what l4round sees of it is its cut. -/
theorem quo_seen (Q : Nat) (hQ : Q ≠ 0) (S : Bool) (low : Int) :
    scN (val (dlm (wval S (limbs Q)))).toNat (dex (wval S (limbs Q)) (low - 3) - (low - 1)) = scN Q (-2) ∧ scL (val (dlm (wval S (limbs Q)))).toNat (dex (wval S (limbs Q)) (low - 3) - (low - 1)) = scL Q (-2) := by
  have ha : (wval S (limbs Q)).natAbs = Q := by rw [wval_abs (limbs_lim Q), limbs_val, Int.toNat_natCast]
  have hne : wval S (limbs Q) ≠ 0 := by intro e; rw [e] at ha; simp at ha; omega
  obtain ⟨m, hm⟩ := tz_form hQ
  have e1 : Q / 2 ^ tz Q * 2 ^ tz Q = Q := by
    have : 2 ^ tz Q ∣ Q := ⟨2 * m + 1, hm⟩
    exact Nat.div_mul_cancel this
  unfold dlm dex
  rw [if_neg hne, ha, limbs_val, Int.toNat_natCast]
  have := sc_shift (Q / 2 ^ tz Q) (tz Q) (-2)
  rw [e1] at this
  rw [show low - 3 + (tz Q : Int) - (low - 1) = -2 + (tz Q : Int) by omega]
  exact ⟨this.1.symm, this.2.symm⟩

theorem quo_pos (V Y : Nat) (hV : V ≠ 0) (hY : 0 < Y) (k : Int) : quoQ V Y k ≠ 0 := by
  intro h
  unfold quoQ quoL quoN at h
  have hx : 0 < quoX V k := Nat.mul_pos (Nat.pos_of_ne_zero hV) (Nat.two_pow_pos _)
  have d := Nat.div_add_mod (quoX V k) (quoX Y (-k))
  have h1 : quoX V k / quoX Y (-k) = 0 := by omega
  have h2 : quoX V k % quoX Y (-k) = 0 := by
    by_cases hc : quoX V k % quoX Y (-k) = 0
    · exact hc
    · simp [hc] at h
  rw [h1, h2, Nat.mul_zero] at d
  omega

/-- so the model's rounded quotient is the program's. -/
theorem quo_round (V Y : Nat) (hV : V ≠ 0) (hY : 0 < Y) (k low : Int) (S : Bool) :
    scN (val (dlm (wval S (limbs (quoQ V Y (k + 1)))))).toNat (dex (wval S (limbs (quoQ V Y (k + 1)))) (low - 3) - (low - 1)) = quoN V Y k ∧ scL (val (dlm (wval S (limbs (quoQ V Y (k + 1)))))).toNat (dex (wval S (limbs (quoQ V Y (k + 1)))) (low - 3) - (low - 1)) = quoL V Y k := by
  obtain ⟨a, b⟩ := quo_seen (quoQ V Y (k + 1)) (quo_pos V Y hV hY _) S low
  obtain ⟨c, d⟩ := quo_cut V Y hY k
  exact ⟨a.trans c, b.trans d⟩

end Go.Proofs.YtocmecjadhodfaaDoor
