/-
  Quotients of floats, in numbers.
-/
import Derived.Test.YtflpkblmcnkghaaDoorStd
import Derived.Test.YtflpkblmcnkghaaDoorBY
namespace Go.Proofs.YtflpkblmcnkghaaDoor
open Go.RowKit
set_option linter.unusedVariables false

/-- The place where a quotient is cut. -/
def dvP (m1 e1 m2 e2 : Int) : Int := topI (limbs m1.toNat) e1 - topI (limbs m2.toNat) e2 - 56
def dvV (m1 e1 m2 e2 : Int) : Nat := quoQ m1.toNat m2.toNat (e1 - e2 - dvP m1 e1 m2 e2)
/-- A quotient of floats, rounded; its flags. -/
def dvQ (k1 : Int) (n1 : Bool) (m1 e1 k2 : Int) (n2 : Bool) (m2 e2 mode : Int) : (Int × Bool × Int × Int) × Int :=
  if k1 = 3 ∨ k2 = 3 then ((3, false, 0, 0), 0)
  else if (k1 = 2 ∧ k2 = 2) ∨ (k1 = 0 ∧ k2 = 0) then ((3, false, 0, 0), 16)
  else if k1 = 2 then ((2, !(n1 == n2), 0, 0), 0)
  else if k2 = 2 ∨ k1 = 0 then ((0, !(n1 == n2), 0, 0), 0)
  else if k2 = 0 then ((2, !(n1 == n2), 0, 0), 8)
  else (((flA mode (!(n1 == n2)) (dvV m1 e1 m2 e2) (dvP m1 e1 m2 e2 - 1)).1, !(n1 == n2), (flA mode (!(n1 == n2)) (dvV m1 e1 m2 e2) (dvP m1 e1 m2 e2 - 1)).2.1, (flA mode (!(n1 == n2)) (dvV m1 e1 m2 e2) (dvP m1 e1 m2 e2 - 1)).2.2), flG mode (!(n1 == n2)) (dvV m1 e1 m2 e2) (dvP m1 e1 m2 e2 - 1))

theorem bits_of_geq {n j : Nat} (h : 2 ^ j ≤ n) : j + 1 ≤ bitsN n := by
  rcases Nat.lt_or_ge (bitsN n) (j + 1) with h1 | h1
  · exfalso
    have := bits_lt n
    have h2 := Nat.pow_le_pow_right (n := 2) (by decide) (show bitsN n ≤ j by omega)
    omega
  · exact h1

theorem dv_bits {m1 m2 : Int} (h1 : 1 ≤ m1) (h2 : 1 ≤ m2) (e1 e2 : Int) : 56 ≤ bitsN (quoN m1.toNat m2.toNat (e1 - e2 - dvP m1 e1 m2 e2)) := by
  have hV : m1.toNat ≠ 0 := by omega
  have hY : m2.toNat ≠ 0 := by omega
  refine bits_of_geq (j := 55) ?_
  refine quo_ge hV (by omega) ?_
  unfold dvP
  rw [topI_limbs hV, topI_limbs hY]
  omega

theorem dv_ne {m1 m2 : Int} (h1 : 1 ≤ m1) (h2 : 1 ≤ m2) (e1 e2 : Int) : quoN m1.toNat m2.toNat (e1 - e2 - dvP m1 e1 m2 e2) ≠ 0 := by
  intro h
  have := dv_bits h1 h2 e1 e2
  rw [h] at this
  exact absurd this (by decide)

theorem quo_shift (V Y s t : Nat) (hY : 0 < Y) (k : Int) : quoQ (V * 2 ^ s) (Y * 2 ^ t) k = quoQ V Y (k + s - t) := by
  have key : ∀ (a b a' b' : Nat), 0 < b → 0 < b' → a * b' = a' * b → a / b = a' / b' ∧ (a % b ≠ 0 ↔ a' % b' ≠ 0) := by
    intro a b a' b' hb hb' h
    have e1 : a * b' / (b * b') = a / b := Nat.mul_div_mul_right _ _ hb'
    have e2 : a' * b / (b' * b) = a' / b' := Nat.mul_div_mul_right _ _ hb
    have f1 : a * b' % (b * b') = a % b * b' := Nat.mul_mod_mul_right ..
    have f2 : a' * b % (b' * b) = a' % b' * b := Nat.mul_mod_mul_right ..
    rw [h, Nat.mul_comm b b'] at e1 f1
    refine ⟨by rw [← e1, ← e2], ?_⟩
    rw [f1] at f2
    constructor
    · intro hn h0
      rw [h0, Nat.zero_mul] at f2
      rcases Nat.mul_eq_zero.1 f2 with g | g
      · exact hn g
      · omega
    · intro hn h0
      rw [h0, Nat.zero_mul] at f2
      rcases Nat.mul_eq_zero.1 f2.symm with g | g
      · exact hn g
      · omega
  have hp : ∀ n : Nat, 0 < 2 ^ n := fun n => Nat.pow_pos (by decide)
  have h := key (quoX (V * 2 ^ s) k) (quoX (Y * 2 ^ t) (-k)) (quoX V (k + s - t)) (quoX Y (-(k + s - t)))
    (Nat.mul_pos (Nat.mul_pos hY (hp _)) (hp _)) (Nat.mul_pos hY (hp _)) (by
      unfold quoX
      have e : 2 ^ s * 2 ^ k.toNat * 2 ^ (-(k + (s : Int) - t)).toNat = 2 ^ (k + (s : Int) - t).toNat * (2 ^ t * 2 ^ (-k).toNat) := by
        rw [← Nat.pow_add, ← Nat.pow_add, ← Nat.pow_add, ← Nat.pow_add]
        congr 1
        omega
      generalize 2 ^ s = a at *
      generalize 2 ^ k.toNat = b at *
      generalize 2 ^ (-(k + (s : Int) - t)).toNat = c at *
      generalize 2 ^ (k + (s : Int) - t).toNat = d at *
      generalize 2 ^ t = f at *
      generalize 2 ^ (-k).toNat = g at *
      have l : V * a * b * (Y * c) = V * Y * (a * b * c) := by
        rw [Nat.mul_assoc V a b, Nat.mul_mul_mul_comm]
      have r : V * d * (Y * f * g) = V * Y * (d * (f * g)) := by
        rw [Nat.mul_assoc Y f g, Nat.mul_mul_mul_comm]
      rw [l, r, e])
  unfold quoQ quoN quoL
  rw [h.1]
  have h2 : decide (quoX (V * 2 ^ s) k % quoX (Y * 2 ^ t) (-k) ≠ 0) = decide (quoX V (k + s - t) % quoX Y (-(k + s - t)) ≠ 0) := decide_eq_decide.2 h.2
  rw [h2]

theorem fM_abs1 (n : Bool) {m : Int} (h : 1 ≤ m) : (fM 1 n m).natAbs = m.toNat := by unfold fM; cases n <;> simp <;> omega

/-- a float's number in its one form. -/
theorem odd_form (n : Bool) {m : Int} (h : 1 ≤ m) (e : Int) : (val (dlm (fM 1 n m))).toNat * 2 ^ tz m.toNat = m.toNat ∧ dex (fM 1 n m) e = e + (tz m.toNat : Int) ∧ (val (dlm (fM 1 n m))).toNat ≠ 0 ∧ topI (dlm (fM 1 n m)) (dex (fM 1 n m) e) = topI (limbs m.toNat) e := by
  have hV : m.toNat ≠ 0 := by omega
  have hab := fM_abs1 n h
  have hne : fM 1 n m ≠ 0 := by intro e; rw [e] at hab; simp at hab; omega
  have hdx : dex (fM 1 n m) e = e + (tz m.toNat : Int) := by unfold dex; rw [if_neg hne, hab]
  have hdl : dlm (fM 1 n m) = limbs (m.toNat / 2 ^ tz m.toNat) := by unfold dlm; rw [hab]
  obtain ⟨q, hq⟩ := tz_form hV
  have e1 : m.toNat / 2 ^ tz m.toNat * 2 ^ tz m.toNat = m.toNat := Nat.div_mul_cancel ⟨2 * q + 1, hq⟩
  have e2 : m.toNat / 2 ^ tz m.toNat ≠ 0 := fun h => by rw [h] at e1; omega
  refine ⟨by rw [hdl, limbs_val, Int.toNat_natCast]; exact e1, hdx, by rw [hdl, limbs_val, Int.toNat_natCast]; exact e2, ?_⟩
  rw [hdl, topI_limbs e2, topI_limbs hV, hdx]
  have := bits_shift e2 (tz m.toNat)
  rw [e1] at this
  omega

/-- the model's quotient has the same float. -/
theorem dv_fin (mode : Int) (s n1 n2 : Bool) {m1 e1 m2 e2 : Int} (h1 : 1 ≤ m1) (h2 : 1 ≤ m2) (low : Int) (hlow : low = topI (dlm (fM 1 n1 m1)) (dex (fM 1 n1 m1) e1) - topI (dlm (fM 1 n2 m2)) (dex (fM 1 n2 m2) e2) - 53 - 3) (Q : Nat) (hQ : Q = quoQ (val (dlm (fM 1 n1 m1))).toNat (val (dlm (fM 1 n2 m2))).toNat (dex (fM 1 n1 m1) e1 - dex (fM 1 n2 m2) e2 - (low - 1) + 1)) :
    Q ≠ 0 ∧ flA mode s (val (dlm (wval s (limbs Q)))).toNat (dex (wval s (limbs Q)) (low - 3)) = flA mode s (dvV m1 e1 m2 e2) (dvP m1 e1 m2 e2 - 1) ∧ flG mode s (val (dlm (wval s (limbs Q)))).toNat (dex (wval s (limbs Q)) (low - 3)) = flG mode s (dvV m1 e1 m2 e2) (dvP m1 e1 m2 e2 - 1) := by
  obtain ⟨a1, a2, a3, a4⟩ := odd_form n1 h1 e1
  obtain ⟨b1, b2, b3, b4⟩ := odd_form n2 h2 e2
  rw [a4, b4] at hlow
  have hP : low - 2 = dvP m1 e1 m2 e2 - 2 := by unfold dvP; omega
  have hQ2 : Q = quoQ m1.toNat m2.toNat (e1 - e2 - (dvP m1 e1 m2 e2 - 2)) := by
    have h := quo_shift (val (dlm (fM 1 n1 m1))).toNat (val (dlm (fM 1 n2 m2))).toNat (tz m1.toNat) (tz m2.toNat) (by omega) (e1 - e2 - (dvP m1 e1 m2 e2 - 2))
    rw [a1, b1] at h
    rw [h, hQ, a2, b2]
    congr 1
    omega
  have hQ0 : Q ≠ 0 := by rw [hQ]; exact quo_pos _ _ a3 (by omega) _
  have f := fl_stand (quo_cuts m1.toNat m2.toNat (by omega) (e1 - e2)) (Q := dvP m1 e1 m2 e2 - 2) (P := dvP m1 e1 m2 e2) (by omega) (Nat.le_trans (by decide) (dv_bits h1 h2 e1 e2)) mode s
  rw [← quo_std, ← quo_std, ← hQ2] at f
  have g := fl_odd_form mode s hQ0 (low - 3)
  rw [show low - 3 = dvP m1 e1 m2 e2 - 2 - 1 by omega] at g ⊢
  exact ⟨hQ0, g.1.trans f.1, g.2.trans f.2⟩

end Go.Proofs.YtflpkblmcnkghaaDoor

