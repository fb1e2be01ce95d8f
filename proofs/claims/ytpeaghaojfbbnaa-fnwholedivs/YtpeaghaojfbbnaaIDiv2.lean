/-
  The program's divideAt: one limb of a quotient.
-/
import Derived.Test.YtpeaghaojfbbnaaIDiv1
namespace Go.Proofs.Ytpeaghaojfbbnaa
open Go.RowKit
set_option linter.unusedVariables false
set_option maxRecDepth 8000
set_option linter.unusedSimpArgs false

theorem win_val (zs : List Int) (p m : Nat) (h : p + m < zs.length) : val (zs.drop p) = val ((zs.drop p).take m) + 65536 ^ m * (zs.getD (p + m) 0 + 65536 * val (zs.drop (p + m + 1))) := by
  rw [val_take_drop (zs.drop p) m (by simp; omega), List.drop_drop, val_drop zs (p + m)]
theorem getD_drop (zs : List Int) (p j : Nat) : (zs.drop p).getD j 0 = zs.getD (p + j) 0 := by simp [List.getD]
theorem getD_take (zs : List Int) (m j : Nat) (h : j < m) : (zs.take m).getD j 0 = zs.getD j 0 := by simp [List.getD, List.getElem?_take, h]
theorem mid_lim (zs : List Int) (p m : Nat) (h : p + m ≤ zs.length) (hm : ∀ j, p ≤ j → j < p + m → 0 ≤ zs.getD j 0 ∧ zs.getD j 0 ≤ 65535) : Lim ((zs.drop p).take m) := by
  refine lim_of_getD (fun j hj => ?_)
  have hl : ((zs.drop p).take m).length = m := by simp; omega
  rw [getD_take _ _ _ (by omega), getD_drop]
  exact hm _ (by omega) (by omega)
theorem mid_val (zs : List Int) (p m : Nat) (h : p + m ≤ zs.length) (hm : ∀ j, p ≤ j → j < p + m → 0 ≤ zs.getD j 0 ∧ zs.getD j 0 ≤ 65535) : 0 ≤ val ((zs.drop p).take m) ∧ val ((zs.drop p).take m) < 65536 ^ m := by
  have hl : ((zs.drop p).take m).length = m := by simp; omega
  have h1 := mid_lim zs p m h hm
  have h2 := val_lt h1
  rw [hl] at h2
  exact ⟨val_nonneg h1, h2⟩
theorem list_same {xs ys : List Int} (hl : xs.length = ys.length) (h : ∀ j, j < xs.length → xs.getD j 0 = ys.getD j 0) : xs = ys := by
  apply List.ext_getElem hl
  intro i h1 h2
  have := h i h1
  simpa [List.getD, h1, h2] using this
theorem drop_same {xs ys : List Int} (hl : xs.length = ys.length) (n : Nat) (h : ∀ j, n ≤ j → xs.getD j 0 = ys.getD j 0) : xs.drop n = ys.drop n :=
  list_same (by simp [hl]) (fun j hj => by rw [getD_drop, getD_drop]; exact h _ (by omega))
theorem take_same {xs ys : List Int} (hl : xs.length = ys.length) (n : Nat) (h : ∀ j, j < n → xs.getD j 0 = ys.getD j 0) : xs.take n = ys.take n :=
  list_same (by simp [hl]) (fun j hj => by
    have hj' : j < n := by simp at hj; omega
    rw [getD_take _ _ _ hj', getD_take _ _ _ hj']; exact h _ hj')

/-- qs is zs but for the limbs from p up to p + m, and is S from p on. -/
structure Win (zs qs : List Int) (p m : Nat) (S : Int) : Prop where
  len : qs.length = zs.length
  mid : ∀ j, p ≤ j → j < p + m → 0 ≤ qs.getD j 0 ∧ qs.getD j 0 ≤ 65535
  out : ∀ j, (j < p ∨ p + m < j) → qs.getD j 0 = zs.getD j 0
  win : val (qs.drop p) = S

theorem Win.added {b g gb p : Nat} {w w' : World} {v : Value} {zs qs qs' ys : List Int} {S t : Int} (W : Win zs qs p ys.length S) (A : Added b w w' g gb v qs qs' ys p t) (hp : p + ys.length < zs.length) : Win zs qs' p ys.length (S + t * val ys) := by
  have hl : qs'.length = zs.length := A.len.trans W.len
  refine ⟨hl, A.mid, fun j h => (A.out j h).trans (W.out j h), ?_⟩
  have e1 := val_take_drop qs' p (by omega)
  have e2 := val_take_drop qs p (by have := W.len; omega)
  have e3 : qs'.take p = qs.take p := take_same A.len p (fun j h => A.out j (.inl h))
  have e4 := A.sum
  rw [e1, e2, e3, W.win] at e4
  have hP : (0 : Int) < 65536 ^ p := Int.pow_pos (by decide)
  generalize (65536 : Int) ^ p = P at *
  have e5 : P * val (qs'.drop p) = P * (S + t * val ys) := by
    rw [Int.mul_add]
    have : t * (P * val ys) = P * (t * val ys) := by rw [← Int.mul_assoc, Int.mul_comm t P, Int.mul_assoc]
    omega
  exact Int.eq_of_mul_eq_mul_left (by omega) e5
theorem Win.top {zs qs : List Int} {p m : Nat} {S : Int} (W : Win zs qs p m S) (hp : p + m < zs.length) (h0 : val (zs.drop (p + m + 1)) = 0) :
    ∃ lo : Int, 0 ≤ lo ∧ lo < 65536 ^ m ∧ S = lo + 65536 ^ m * qs.getD (p + m) 0 := by
  have hl := W.len
  have e1 := win_val qs p m (by omega)
  have e2 : qs.drop (p + m + 1) = zs.drop (p + m + 1) := drop_same hl _ (fun j h => W.out j (.inr (by omega)))
  rw [W.win, e2, h0, Int.mul_zero, Int.add_zero] at e1
  obtain ⟨h1, h2⟩ := mid_val qs p m (by omega) W.mid
  exact ⟨_, h1, h2, e1⟩
theorem top_neg {S lo P T : Int} (hP : 0 < P) (h0 : 0 ≤ lo) (h1 : lo < P) (h : S = lo + P * T) : (T < 0 ↔ S < 0) := by
  constructor
  · intro ht
    have : P * T ≤ P * (-1) := Int.mul_le_mul_of_nonneg_left (by omega) (by omega)
    omega
  · intro hs
    rcases Int.lt_or_le T 0 with h2 | h2
    · exact h2
    · have := Int.mul_nonneg (Int.le_of_lt hP) h2
      omega
theorem top_range {S lo P T : Int} (hP : 0 < P) (h0 : 0 ≤ lo) (h1 : lo < P) (h : S = lo + P * T) (hS : - (65536 * P) ≤ S) (hS1 : S < 65536 * P) : -65537 ≤ T ∧ T ≤ 65536 := by
  constructor
  · rcases Int.lt_or_le T (-65537) with h2 | h2
    · have : P * T ≤ P * (-65538) := Int.mul_le_mul_of_nonneg_left (by omega) (by omega)
      omega
    · exact h2
  · rcases Int.lt_or_le 65536 T with h2 | h2
    · have : P * 65537 ≤ P * T := Int.mul_le_mul_of_nonneg_left (by omega) (by omega)
      omega
    · exact h2
theorem win_zero {S lo P T : Int} (hP : 0 < P) (h0 : 0 ≤ lo) (h1 : lo < P) (h : S = lo + P * T) (hS : 0 ≤ S) (hS1 : S < P) : T = 0 := by
  have a := (top_neg hP h0 h1 h)
  rcases Int.lt_or_le T 1 with h2 | h2
  · have : ¬ T < 0 := fun e => by have := a.1 e; omega
    omega
  · have : P * 1 ≤ P * T := Int.mul_le_mul_of_nonneg_left h2 (by omega)
    omega
/-- All is limbs again where what is left is less than the divisor. -/
theorem Win.done {zs qs : List Int} {p m : Nat} {S : Int} (W : Win zs qs p m S) (hz : Lim zs) (hp : p + m < zs.length) (h0 : val (zs.drop (p + m + 1)) = 0) (hS : 0 ≤ S) (hS1 : S < 65536 ^ m) : Lim qs := by
  obtain ⟨lo, h1, h2, h3⟩ := W.top hp h0
  have ht := win_zero (Int.pow_pos (by decide)) h1 h2 h3 hS hS1
  refine lim_of_getD (fun j hj => ?_)
  by_cases e1 : j < p ∨ p + m < j
  · rw [W.out j e1]; exact hz.at j
  · by_cases e2 : j = p + m
    · subst e2; rw [ht]; omega
    · exact W.mid j (by omega) (by omega)
theorem win_start {zs : List Int} {p m : Nat} (hz : Lim zs) : Win zs zs p m (val (zs.drop p)) := ⟨rfl, fun j _ _ => hz.at j, fun j _ => rfl, rfl⟩
/-- What is above the window is nought, where the window is less than 65536 times the divisor. -/
theorem above_zero {zs : List Int} {p m : Nat} (hz : Lim zs) (hp : p + m < zs.length) (hR : val (zs.drop p) < 65536 ^ (m + 1)) : val (zs.drop (p + m + 1)) = 0 := by
  have e := val_take_drop (zs.drop p) (m + 1) (by simp; omega)
  rw [List.drop_drop, ← Nat.add_assoc] at e
  have h1 := val_nonneg ((hz.drop p).take (m + 1))
  have h2 := val_nonneg (hz.drop (p + m + 1))
  rcases Int.lt_or_le (val (zs.drop (p + m + 1))) 1 with h | h
  · omega
  · have : (65536 : Int) ^ (m + 1) * 1 ≤ 65536 ^ (m + 1) * val (zs.drop (p + m + 1)) := Int.mul_le_mul_of_nonneg_left h (Int.le_of_lt (Int.pow_pos (by decide)))
    omega
/-- The guess is not too small. -/
theorem guess_ok {zs ys : List Int} {p : Nat} (hz : Lim zs) (hy : Nrm ys) (hne : ys ≠ []) (hp : p + ys.length < zs.length) (h0 : val (zs.drop (p + ys.length + 1)) = 0) :
    val (zs.drop p) / val ys ≤ (zs.getD (p + ys.length) 0 * 65536 + zs.getD (p + ys.length - 1) 0) / ys.getD (ys.length - 1) 0 := by
  have hm : 0 < ys.length := List.length_pos_iff.2 hne
  obtain ⟨m, hm1⟩ : ∃ m, ys.length = m + 1 := ⟨ys.length - 1, by omega⟩
  have hY : 0 < val ys := by
    have h1 := nrm_pow hy hne
    have : (0 : Int) < 65536 ^ (ys.length - 1) := Int.pow_pos (by decide)
    omega
  have hlast : 0 < ys.getD (ys.length - 1) 0 := by
    have h1 := hy.1.at (ys.length - 1)
    have hl : ys.length - 1 < ys.length := by omega
    have h2 := hy.2 (ys.getD (ys.length - 1) 0) (by rw [List.getLast?_eq_getElem?]; simp [List.getD, hl])
    omega
  have eY := val_take_succ ys m (by omega)
  rw [← hm1, List.take_length] at eY
  have hYl := val_nonneg (hy.1.take m)
  have eR := win_val zs p m (by omega)
  have hlo := mid_val zs p m (by omega) (fun j _ _ => hz.at j)
  have e2 := val_drop zs (p + m + 1)
  rw [show p + m + 1 + 1 = p + ys.length + 1 by omega, h0, Int.mul_zero, Int.add_zero] at e2
  rw [e2] at eR
  rw [hm1, show m + 1 - 1 = m by omega, show p + (m + 1) - 1 = p + m by omega, show p + (m + 1) = p + m + 1 by omega]
  rw [hm1, show m + 1 - 1 = m by omega] at hlast
  refine guess_ge (val (zs.drop p)) (val ys) _ (65536 ^ m) _ _ (val ((zs.drop p).take m)) (Int.pow_pos (by decide)) hlast ?_ hlo.2 ?_ (Int.ediv_nonneg (val_nonneg (hz.drop p)) (Int.le_of_lt hY)) (Int.ediv_mul_le _ (by omega))
  · rw [eR, Int.mul_comm (zs.getD (p + m + 1) 0 * 65536 + zs.getD (p + m) 0), Int.add_comm (val ((zs.drop p).take m))]
    congr 2
    rw [Int.mul_comm 65536, Int.add_comm]
  · rw [eY, Int.mul_comm]; omega

end Go.Proofs.Ytpeaghaojfbbnaa
