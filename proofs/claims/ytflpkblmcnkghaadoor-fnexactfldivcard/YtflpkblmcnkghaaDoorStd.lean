/-
  A number that stands in for another: what is cut off at a place, and one bit that tells of the rest. It has the float of the true one.
-/
import Derived.Test.YtflpkblmcnkghaaDoorBS
namespace Go.Proofs.YtflpkblmcnkghaaDoor
open Go.RowKit
set_option linter.unusedVariables false

/-- A number by its cuts: at each place what is whole, and whether anything is lost. -/
def Cuts (N : Int → Nat) (L : Int → Bool) : Prop := ∀ P : Int, N (P - 1) / 2 = N P ∧ (N (P - 1) % 2 ≠ 0 ∨ L (P - 1) = true ↔ L P = true)

theorem Cuts.many {N : Int → Nat} {L : Int → Bool} (c : Cuts N L) (P : Int) (t : Nat) : N (P - t) / 2 ^ t = N P ∧ (N (P - t) % 2 ^ t ≠ 0 ∨ L (P - t) = true ↔ L P = true) := by
  induction t with
  | zero =>
    rw [show P - ((0 : Nat) : Int) = P by omega, Nat.pow_zero, Nat.div_one, Nat.mod_one]
    simp
  | succ t ih =>
    obtain ⟨a, b⟩ := c (P - t)
    rw [show P - ((t + 1 : Nat) : Int) = P - (t : Int) - 1 by omega]
    obtain ⟨i1, i2⟩ := ih
    have e : N (P - (t : Int) - 1) / 2 ^ (t + 1) = N P := by rw [Nat.pow_succ, Nat.mul_comm, ← Nat.div_div_eq_div_mul, a, i1]
    refine ⟨e, ?_⟩
    rw [← i2, ← b, Nat.pow_succ, Nat.mul_comm, Nat.mod_mul, a]
    have hp : 0 < 2 ^ t := Nat.pow_pos (by decide)
    constructor
    · rintro (h | h)
      · by_cases h1 : N (P - (t : Int) - 1) % 2 = 0
        · left; intro h2; apply h; rw [h1, h2]
        · exact .inr (.inl h1)
      · exact .inr (.inr h)
    · rintro (h | h | h)
      · left; intro h2; apply h; omega
      · left; omega
      · exact .inr h

/-- What stands in: the cut at a place, and one bit. -/
def stdV (N : Int → Nat) (L : Int → Bool) (Q : Int) : Nat := 2 * N Q + (if L Q = true then 1 else 0)

theorem std_cut {N : Int → Nat} {L : Int → Bool} (c : Cuts N L) {Q P : Int} (h : Q ≤ P) : scN (stdV N L Q) (Q - 1 - P) = N P ∧ scL (stdV N L Q) (Q - 1 - P) = L P := by
  obtain ⟨t, ht⟩ : ∃ t : Nat, P - Q = t := ⟨(P - Q).toNat, by omega⟩
  have hQ : Q = P - (t : Int) := by omega
  obtain ⟨a, b⟩ := c.many P t
  rw [← hQ] at a b
  have e : Q - 1 - P = -((t + 1 : Nat) : Int) := by omega
  rw [e, scN_down _ _ (by omega), scL_down _ _ (by omega), Nat.pow_succ, Nat.mul_comm (2 ^ t) 2]
  have h1 : stdV N L Q / 2 = N Q := by unfold stdV; split <;> omega
  have h2 : stdV N L Q % 2 ≠ 0 ↔ L Q = true := by
    unfold stdV
    generalize L Q = b
    generalize N Q = n
    cases b <;> simp <;> omega
  refine ⟨by rw [← Nat.div_div_eq_div_mul, h1, a], ?_⟩
  rw [Nat.mod_mul, h1]
  apply Bool.eq_iff_iff.2
  rw [decide_eq_true_eq, ← b, ← h2]
  generalize stdV N L Q % 2 = u
  generalize N Q % 2 ^ t = v
  omega

theorem bits_div {n t : Nat} (h : n / 2 ^ t ≠ 0) : bitsN n = bitsN (n / 2 ^ t) + t := by
  have h1 := bits_lt (n / 2 ^ t)
  have h2 := bits_ge h
  have h3 := bits_pos h
  have hp : 0 < 2 ^ t := Nat.pow_pos (by decide)
  apply bitsN_unique
  · rw [Nat.pow_add]
    exact (Nat.div_lt_iff_lt_mul hp).1 h1
  · right
    rw [show bitsN (n / 2 ^ t) + t - 1 = (bitsN (n / 2 ^ t) - 1) + t by omega, Nat.pow_add]
    exact (Nat.le_div_iff_mul_le hp).1 h2

theorem std_bits {N : Int → Nat} {L : Int → Bool} {Q : Int} (h : N Q ≠ 0) : bitsN (stdV N L Q) = bitsN (N Q) + 1 := by
  have h1 : stdV N L Q / 2 ^ 1 = N Q := by rw [Nat.pow_one]; unfold stdV; split <;> omega
  have := bits_div (n := stdV N L Q) (t := 1) (by rw [h1]; exact h)
  rw [h1] at this
  exact this

theorem std_top {N : Int → Nat} {L : Int → Bool} (c : Cuts N L) {Q P : Int} (hQ : Q ≤ P) (h : N P ≠ 0) : Q + (bitsN (N Q) : Int) = P + (bitsN (N P) : Int) := by
  obtain ⟨t, ht⟩ : ∃ t : Nat, P - Q = t := ⟨(P - Q).toNat, by omega⟩
  have e := (c.many P t).1
  rw [show P - (t : Int) = Q by omega] at e
  have := bits_div (n := N Q) (t := t) (by rw [e]; exact h)
  rw [e] at this
  omega

theorem std_ne {N : Int → Nat} {L : Int → Bool} {Q : Int} (h : N Q ≠ 0) : stdV N L Q ≠ 0 := by unfold stdV; omega

theorem std_low {N : Int → Nat} {L : Int → Bool} {Q : Int} (h : N Q ≠ 0) : flTop (stdV N L Q) (Q - 1) = Q + (bitsN (N Q) : Int) := by
  unfold flTop
  rw [std_bits h]
  omega

/-- whatever stands in, fine enough, has one float. -/
theorem fl_stand {N : Int → Nat} {L : Int → Bool} (c : Cuts N L) {Q P : Int} (h : Q ≤ P) (hP : 55 ≤ bitsN (N P)) (mode : Int) (s : Bool) :
    flA mode s (stdV N L Q) (Q - 1) = flA mode s (stdV N L P) (P - 1) ∧ flG mode s (stdV N L Q) (Q - 1) = flG mode s (stdV N L P) (P - 1) := by
  have nP : N P ≠ 0 := fun e => by rw [e] at hP; exact absurd hP (by decide)
  have ht := std_top c h nP
  have nQ : N Q ≠ 0 := fun e => by
    obtain ⟨t, ht⟩ : ∃ t : Nat, P - Q = t := ⟨(P - Q).toNat, by omega⟩
    have e2 := (c.many P t).1
    rw [show P - (t : Int) = Q by omega, e, Nat.zero_div] at e2
    exact nP e2.symm
  have t1 := std_low (L := L) nQ
  have t2 := std_low (L := L) nP
  have hT : flTop (stdV N L Q) (Q - 1) = flTop (stdV N L P) (P - 1) := by rw [t1, t2, ht]
  have hl : flLow (stdV N L Q) (Q - 1) = flLow (stdV N L P) (P - 1) := by unfold flLow; rw [hT]
  have hg := flLow_ge (stdV N L P) (P - 1)
  rw [t2] at hg
  have hH : flH (stdV N L Q) (Q - 1) = flH (stdV N L P) (P - 1) := by
    unfold flH
    rw [hl, (std_cut c (Q := Q) (P := flLow (stdV N L P) (P - 1) - 1) (by omega)).1, (std_cut c (Q := P) (P := flLow (stdV N L P) (P - 1) - 1) (by omega)).1]
  have hL : flL (stdV N L Q) (Q - 1) = flL (stdV N L P) (P - 1) := by
    unfold flL
    rw [hl, (std_cut c (Q := Q) (P := flLow (stdV N L P) (P - 1) - 1) (by omega)).2, (std_cut c (Q := P) (P := flLow (stdV N L P) (P - 1) - 1) (by omega)).2]
  have hR : flR mode.toNat s (stdV N L Q) (Q - 1) = flR mode.toNat s (stdV N L P) (P - 1) := by unfold flR; rw [hH, hL]
  have hF : flF (stdV N L Q) (Q - 1) = flF (stdV N L P) (P - 1) := by unfold flF flX; rw [hH, hL, hT]
  unfold flA flG
  rw [if_neg (std_ne nQ), if_neg (std_ne nP), if_neg (std_ne nQ), if_neg (std_ne nP), hR, hl, hF]
  exact ⟨rfl, rfl⟩

/-- the model's form of a number (odd, with its power) has the float of the number. -/
theorem fl_odd_form (mode : Int) (s : Bool) {Q : Nat} (hQ : Q ≠ 0) (x : Int) :
    flA mode s (val (dlm (wval s (limbs Q)))).toNat (dex (wval s (limbs Q)) x) = flA mode s Q x ∧ flG mode s (val (dlm (wval s (limbs Q)))).toNat (dex (wval s (limbs Q)) x) = flG mode s Q x := by
  have ha : (wval s (limbs Q)).natAbs = Q := by rw [wval_abs (limbs_lim Q), limbs_val, Int.toNat_natCast]
  have hne : wval s (limbs Q) ≠ 0 := by intro e; rw [e] at ha; simp at ha; omega
  obtain ⟨m, hm⟩ := tz_form hQ
  have e1 : Q / 2 ^ tz Q * 2 ^ tz Q = Q := by
    have : 2 ^ tz Q ∣ Q := ⟨2 * m + 1, hm⟩
    exact Nat.div_mul_cancel this
  have e2 : Q / 2 ^ tz Q ≠ 0 := fun e => by rw [e] at e1; omega
  unfold dlm dex
  rw [if_neg hne, ha, limbs_val, Int.toNat_natCast]
  have := fl_shift mode s e2 (tz Q) x
  rw [e1] at this
  exact ⟨this.1.symm, this.2.symm⟩

/-- the cuts of a quotient. -/
theorem quo_cuts (V Y : Nat) (hY : 0 < Y) (x : Int) : Cuts (fun P => quoN V Y (x - P)) (fun P => quoL V Y (x - P)) := by
  intro P
  have h := quo_step V Y hY (x - P)
  rw [show x - P + 1 = x - (P - 1) by omega] at h
  exact h

theorem quo_std (V Y : Nat) (x P : Int) : quoQ V Y (x - P) = stdV (fun P => quoN V Y (x - P)) (fun P => quoL V Y (x - P)) P := rfl

theorem quo_ge {V Y j : Nat} (hV : V ≠ 0) (hY : 0 < Y) {k : Int} (h : (bitsN V : Int) + k = (bitsN Y : Int) + j + 1) : 2 ^ j ≤ quoN V Y k := by
  have h1 := bits_ge hV
  have h2 := bits_lt Y
  have h3 := bits_pos hV
  have hz : 0 < quoX Y (-k) := Nat.mul_pos hY (Nat.pow_pos (by decide))
  · unfold quoN
    refine (Nat.le_div_iff_mul_le hz).2 ?_
    unfold quoX
    have a1 : 2 ^ j * (Y * 2 ^ (-k).toNat) ≤ 2 ^ j * (2 ^ bitsN Y * 2 ^ (-k).toNat) := Nat.mul_le_mul_left _ (Nat.mul_le_mul_right _ (Nat.le_of_lt h2))
    have a2 : 2 ^ (bitsN V - 1) * 2 ^ k.toNat ≤ V * 2 ^ k.toNat := Nat.mul_le_mul_right _ h1
    refine Nat.le_trans a1 (Nat.le_trans ?_ a2)
    rw [← Nat.pow_add, ← Nat.pow_add, ← Nat.pow_add]
    exact Nat.pow_le_pow_right (by decide) (by omega)

end Go.Proofs.YtflpkblmcnkghaaDoor

