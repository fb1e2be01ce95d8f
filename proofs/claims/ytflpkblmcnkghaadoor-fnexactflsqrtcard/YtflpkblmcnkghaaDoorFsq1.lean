/-
  Roots of floats, in numbers.
-/
import Derived.Test.YtflpkblmcnkghaaDoorRt7
import Derived.Test.YtflpkblmcnkghaaDoorBY
namespace Go.Proofs.YtflpkblmcnkghaaDoor
open Go.RowKit
set_option linter.unusedVariables false

theorem half_of (T : Int) : -1 ≤ T - 2 * T.tdiv 2 ∧ T - 2 * T.tdiv 2 ≤ 1 := by
  rcases Int.le_total 0 T with h | h
  · rw [Int.tdiv_eq_ediv_of_nonneg h]; omega
  · have e := Int.neg_tdiv (-T) 2
    rw [Int.neg_neg] at e
    rw [e, Int.tdiv_eq_ediv_of_nonneg (by omega)]
    omega

/-- The place where a root is cut. -/
def sqP (m e : Int) : Int := (topI (limbs m.toNat) e).tdiv 2 - 56
def sqV (m e : Int) : Nat := rtQ m.toNat (e - 2 * sqP m e)
/-- A root of a float, rounded; its flags. -/
def sqQ (k : Int) (n : Bool) (m e mode : Int) : (Int × Bool × Int × Int) × Int :=
  if k = 3 then ((3, false, 0, 0), 0)
  else if k = 0 then ((0, n, 0, 0), 0)
  else if n = true then ((3, false, 0, 0), 16)
  else if k = 2 then ((2, false, 0, 0), 0)
  else (((flA mode false (sqV m e) (sqP m e - 1)).1, false, (flA mode false (sqV m e) (sqP m e - 1)).2.1, (flA mode false (sqV m e) (sqP m e - 1)).2.2), flG mode false (sqV m e) (sqP m e - 1))

theorem sq_bits {m : Int} (hm : 1 ≤ m) (e : Int) : 55 ≤ bitsN (rtN m.toNat (e - 2 * sqP m e)) := by
  have hV : m.toNat ≠ 0 := by omega
  have ht := topI_limbs hV e
  have hh := half_of (topI (limbs m.toNat) e)
  obtain ⟨n, hn⟩ : ∃ n : Nat, (bitsN m.toNat : Int) + (e - 2 * sqP m e) = (n : Int) + 1 := ⟨((bitsN m.toNat : Int) + (e - 2 * sqP m e) - 1).toNat, by unfold sqP; omega⟩
  have := rt_bits hV (j := 55) hn (by unfold sqP at hn; omega)
  omega

theorem sq_ne {m : Int} (hm : 1 ≤ m) (e : Int) : rtN m.toNat (e - 2 * sqP m e) ≠ 0 := by
  intro h
  have := sq_bits hm e
  rw [h] at this
  exact absurd this (by decide)

theorem rt_shift (V t : Nat) (k : Int) : rtQ (V * 2 ^ t) k = rtQ V (k + t) := by
  unfold rtQ rtL rtN
  rw [(sc_shift V t k).1, (sc_shift V t k).2]

theorem fM_pos {m : Int} (h : 1 ≤ m) : fM 1 false m = m := by unfold fM; simp

/-- the model's root has the same float. -/
theorem sq_fin (mode : Int) {m e : Int} (hm : 1 ≤ m) (low : Int) (hlow : low = (topI (dlm (fM 1 false m)) (dex (fM 1 false m) e)).tdiv 2 - 53 - 4) (Q : Nat) (hQ : Q = rtQ (val (dlm (fM 1 false m))).toNat (dex (fM 1 false m) e - 2 * (low - 1) + 2)) :
    Q ≠ 0 ∧ flA mode false (val (dlm (wval false (limbs Q)))).toNat (dex (wval false (limbs Q)) (low - 3)) = flA mode false (sqV m e) (sqP m e - 1) ∧ flG mode false (val (dlm (wval false (limbs Q)))).toNat (dex (wval false (limbs Q)) (low - 3)) = flG mode false (sqV m e) (sqP m e - 1) := by
  rw [fM_pos hm] at hlow hQ
  have hm0 : m ≠ 0 := by omega
  have hab : m.natAbs = m.toNat := by omega
  have hV : m.toNat ≠ 0 := by omega
  have hdx : dex m e = e + (tz m.toNat : Int) := by unfold dex; rw [if_neg hm0, hab]
  have hdl : dlm m = limbs (m.toNat / 2 ^ tz m.toNat) := by unfold dlm; rw [hab]
  obtain ⟨q, hq⟩ := tz_form hV
  have e1 : m.toNat / 2 ^ tz m.toNat * 2 ^ tz m.toNat = m.toNat := Nat.div_mul_cancel ⟨2 * q + 1, hq⟩
  have e2 : m.toNat / 2 ^ tz m.toNat ≠ 0 := fun h => by rw [h] at e1; omega
  have hT : topI (dlm m) (dex m e) = topI (limbs m.toNat) e := by
    rw [hdl, topI_limbs e2, topI_limbs hV, hdx]
    have := bits_shift e2 (tz m.toNat)
    rw [e1] at this
    omega
  rw [hT] at hlow
  have hP : low - 2 = sqP m e - 3 := by unfold sqP; omega
  have hQ2 : Q = rtQ m.toNat (e - 2 * (sqP m e - 3)) := by
    have h := rt_shift (m.toNat / 2 ^ tz m.toNat) (tz m.toNat) (e - 2 * (sqP m e - 3))
    rw [e1] at h
    rw [h, hQ, hdl, limbs_val, Int.toNat_natCast, hdx]
    congr 1
    omega
  have hQ0 : Q ≠ 0 := by rw [hQ2]; exact rt_pos _ hV _
  have f := fl_stand (rt_cuts m.toNat e) (Q := sqP m e - 3) (P := sqP m e) (by omega) (sq_bits hm e) mode false
  rw [← rt_std, ← rt_std, ← hQ2] at f
  have g := fl_odd_form mode false hQ0 (low - 3)
  rw [show low - 3 = sqP m e - 3 - 1 by omega] at g ⊢
  exact ⟨hQ0, g.1.trans f.1, g.2.trans f.2⟩

end Go.Proofs.YtflpkblmcnkghaaDoor

