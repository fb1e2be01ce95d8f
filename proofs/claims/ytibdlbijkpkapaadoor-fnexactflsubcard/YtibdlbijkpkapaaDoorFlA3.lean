/-
  Sums of floats: what they are.
-/
import Derived.Test.YtibdlbijkpkapaaDoorFlA2
import Derived.Test.YtibdlbijkpkapaaDoorFlRd
import Derived.Deep.RegionHeld3
import Derived.Deep.DeepCutAuto
namespace Go.Proofs.YtibdlbijkpkapaaDoor
open Go.RowKit
set_option linter.unusedVariables false
set_option maxRecDepth 8000
set_option linter.unusedSimpArgs false

theorem dy_value (m x : Int) (l : Int) (hl : l ≤ x) (h0 : l ≤ 0) : wval (wsg m) (dlm m) * 2 ^ (dex m x - l).toNat = m * 2 ^ (x - l).toNat := by
  by_cases h : m = 0
  ·subst h; simp [wval, dlm_zero, val]
  ·have hd : dex m x = x + (tz m.natAbs : Int) := by unfold dex; rw [if_neg h]
   obtain ⟨q, hq⟩ := tz_form (n := m.natAbs) (by omega)
   have hv : val (dlm m) = ((m.natAbs / 2 ^ tz m.natAbs : Nat) : Int) := limbs_val _
   have hdv : m.natAbs / 2 ^ tz m.natAbs = 2 * q + 1 := by
    conv => lhs; rw [hq]
    have : tz (2 ^ tz m.natAbs * (2 * q + 1)) = tz m.natAbs := by rw [← hq]
    rw [this]
    exact Nat.mul_div_cancel_left _ (Nat.pow_pos (by decide))
   have hm : wval (wsg m) (dlm m) * 2 ^ tz m.natAbs = m := by
    unfold wval wsg
    rw [hv, hdv]
    have e : (m.natAbs : Int) = 2 ^ tz m.natAbs * (2 * (q : Int) + 1) := by
     have := congrArg (fun n : Nat => (n : Int)) hq
     simpa using this
    by_cases hn : m < 0
    ·rw [decide_eq_true hn, if_pos rfl, Int.neg_mul, Int.mul_comm]
     have : ((2 * q + 1 : Nat) : Int) = 2 * (q : Int) + 1 := by omega
     rw [this]
     omega
    ·rw [decide_eq_false hn, if_neg (by decide), Int.mul_comm]
     have : ((2 * q + 1 : Nat) : Int) = 2 * (q : Int) + 1 := by omega
     rw [this]
     omega
   rw [hd, show (x + (tz m.natAbs : Int) - l).toNat = tz m.natAbs + (x - l).toNat by omega, Int.pow_add, ← Int.mul_assoc, hm]

/-- A sum of floats, rounded; its flags. -/
def addQ (k1 : Int) (n1 : Bool) (m1 e1 k2 : Int) (n2 : Bool) (m2 e2 mode : Int) : (Int × Bool × Int × Int) × Int :=
  if k1 = 3 ∨ k2 = 3 then ((3, false, 0, 0), 0)
  else if k1 = 2 ∧ k2 = 2 ∧ (n1 == n2) = false then ((3, false, 0, 0), 16)
  else if k1 = 2 then ((2, n1, 0, 0), 0)
  else if k2 = 2 then ((2, n2, 0, 0), 0)
  else rndQ mode (fM k1 n1 m1 * 2 ^ (e1 - min e1 e2).toNat + fM k2 n2 m2 * 2 ^ (e2 - min e1 e2).toNat) (min e1 e2) (if k1 = 0 ∧ k2 = 0 ∧ n1 = n2 then n1 else (mode == 3))
theorem dex_up {m x : Int} (h : m = 0 → x = 0) : x ≤ dex m x := by
  unfold dex
  split
  ·rename_i e; rw [h e]; exact Int.le_refl _
  ·omega
theorem wsg_pow (m : Int) (k : Nat) : wsg (m * 2 ^ k) = wsg m := by
  have hp : (0 : Int) < 2 ^ k := Int.pow_pos (by decide)
  unfold wsg
  rw [decide_eq_decide]
  constructor
  ·intro h
   rcases Int.lt_or_le m 0 with h' | h'
   ·exact h'
   ·have := Int.mul_nonneg h' (Int.le_of_lt hp); omega
  ·intro h
   exact Int.mul_neg_of_neg_of_pos h hp
theorem val_at (m x l : Int) (hl : l ≤ x) : wval (wsg m) (dlm m) * 2 ^ (dex m x - l).toNat = m * 2 ^ (x - l).toNat := by
  by_cases h : m = 0
  ·subst h; simp [wval, dlm_zero, val]
  ·have e := dy_value m (x - l) 0 (by omega) (by omega)
   have hd : dex m (x - l) = dex m x - l := by unfold dex; rw [if_neg h, if_neg h]; omega
   rw [hd] at e
   simpa using e
theorem add_fin (mode : Int) (Z : Bool) (F1 F2 e1 e2 M X S lo : Int) (h1 : F1 = 0 → e1 = 0) (h2 : F2 = 0 → e2 = 0) (g1 : min e1 e2 ≤ 0 ∨ True)
    (hM : wval (wsg F1) (dlm F1) * 2 ^ (dex F1 e1 - min (dex F1 e1) (dex F2 e2)).toNat + wval (wsg F2) (dlm F2) * 2 ^ (dex F2 e2 - min (dex F1 e1) (dex F2 e2)).toNat = M) (hX : min (dex F1 e1) (dex F2 e2) = X)
    (hS : F1 * 2 ^ (e1 - min e1 e2).toNat + F2 * 2 ^ (e2 - min e1 e2).toNat = S) (hlo : min e1 e2 = lo) :
    (((flA mode (wsg M) (val (dlm M)).toNat (dex M X)).1, (if (val (dlm M)).toNat = 0 then Z else wsg M), (flA mode (wsg M) (val (dlm M)).toNat (dex M X)).2.1, (flA mode (wsg M) (val (dlm M)).toNat (dex M X)).2.2), flG mode (wsg M) (val (dlm M)).toNat (dex M X)) = rndQ mode S lo Z := by
  have u1 := dex_up h1
  have u2 := dex_up h2
  have hl : lo ≤ X := by omega
  have v1 := val_at F1 e1 lo (by omega)
  have v2 := val_at F2 e2 lo (by omega)
  rw [hX] at hM
  have hSM : S = M * 2 ^ (X - lo).toNat := by
   rw [← hS, hlo, ← v1, ← v2, pow_split _ (E := X) (.inr (by omega)) hl, pow_split (wval (wsg F2) (dlm F2)) (E := X) (.inr (by omega)) hl, ← Int.add_mul, hM]
  have hp : (0 : Int) < 2 ^ (X - lo).toNat := Int.pow_pos (by decide)
  obtain ⟨o1, o2⟩ := fl_odd mode (wsg M) M X
  by_cases h0 : M = 0
  ·have hS0 : S = 0 := by rw [hSM, h0, Int.zero_mul]
   rw [rndQ_nought hS0, h0, dlm_zero]
   unfold flA flG
   simp [val]
  ·have hS0 : S ≠ 0 := by rw [hSM]; exact Int.mul_ne_zero h0 (Int.ne_of_gt hp)
   have hv0 : (val (dlm M)).toNat ≠ 0 := by
    have e := (dlm_pos h0).2
    have := val_nonneg (wn_dlm M).1.1
    omega
   have hab : S.natAbs = M.natAbs * 2 ^ (X - lo).toNat := by
    rw [hSM, Int.natAbs_mul, Int.natAbs_pow]; rfl
   obtain ⟨f1, f2⟩ := fl_shift mode (wsg M) (V := M.natAbs) (by omega) (X - lo).toNat lo
   rw [show lo + (((X - lo).toNat : Nat) : Int) = X by omega, ← hab] at f1 f2
   rw [rndQ_num hS0, if_neg hv0, ← o1, ← o2]
   have hw : wsg S = wsg M := by rw [hSM]; exact wsg_pow M _
   rw [hw, f1, f2]

end Go.Proofs.YtibdlbijkpkapaaDoor

