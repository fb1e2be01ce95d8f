/-
  The lesser and the greater of two dyadic numbers: how a choice is told, what is known of it.
-/
import Derived.Test.YtgdgkncielliaaaDoorIv1D
import Derived.Test.YtgdgkncielliaaaDoorIvN
import Derived.Test.YtgdgkncielliaaaDoorIvP
namespace Go.Proofs.YtgdgkncielliaaaDoor
open Go.RowKit
set_option linter.unusedVariables false
set_option maxRecDepth 8000

theorem dok_pk {s1 s2 : Bool} {xs ys : List Int} {x1 x2 : Int} (c : Bool) (h1 : dokB s1 xs x1 = true) (h2 : dokB s2 ys x2 = true) : dokB (pk c s1 s2) (pk c xs ys) (pk c x1 x2) = true := by
  cases c
  · exact h1
  · exact h2
/-- Is the second one greater? -/
def mxB (s1 : Bool) (xs : List Int) (x1 : Int) (s2 : Bool) (ys : List Int) (x2 : Int) : Bool := decide (cmpD s1 xs x1 s2 ys x2 < 0)
/-- Is the second one less? -/
def mnB (s1 : Bool) (xs : List Int) (x1 : Int) (s2 : Bool) (ys : List Int) (x2 : Int) : Bool := decide (0 < cmpD s1 xs x1 s2 ys x2)
theorem cmpI_tri (a b : Int) : (cmpI a b = -1 ∧ a < b) ∨ (cmpI a b = 0 ∧ a = b) ∨ (cmpI a b = 1 ∧ b < a) := by
  unfold cmpI
  by_cases h : a < b
  · rw [if_pos h]; exact .inl ⟨rfl, h⟩
  · by_cases h' : b < a
    · rw [if_neg h, if_pos h']; exact .inr (.inr ⟨rfl, h'⟩)
    · rw [if_neg h, if_neg h']; exact .inr (.inl ⟨rfl, by omega⟩)
theorem cmpDI_lo (m1 x1 m2 x2 : Int) (l : Int) (h1 : l ≤ x1) (h2 : l ≤ x2) : cmpDI m1 x1 m2 x2 = cmpI (m1 * 2 ^ (x1 - l).toNat) (m2 * 2 ^ (x2 - l).toNat) := by
  unfold cmpDI
  rw [← cmpI_scale _ _ (min x1 x2 - l).toNat, ← pow_split m1 (E := min x1 x2) (.inr (by omega)) (by omega), ← pow_split m2 (E := min x1 x2) (.inr (by omega)) (by omega)]
/-- A dyadic number as a multiple of the least power of two that may be told. -/
def vD (s : Bool) (xs : List Int) (x : Int) : Int := wval s xs * 2 ^ (x - -3000).toNat
theorem cmpD_val {s1 s2 : Bool} {xs ys : List Int} {x1 x2 : Int} (h1 : dokB s1 xs x1 = true) (h2 : dokB s2 ys x2 = true) : cmpD s1 xs x1 s2 ys x2 = cmpI (vD s1 xs x1) (vD s2 ys x2) := by
  rw [cmpD_ok h1 h2]
  exact cmpDI_lo _ _ _ _ (-3000) (dok_parts h1).2.1 (dok_parts h2).2.1
theorem cmpD_turn {s1 s2 : Bool} {xs ys : List Int} {x1 x2 : Int} (h1 : dokB s1 xs x1 = true) (h2 : dokB s2 ys x2 = true) : cmpD s2 ys x2 s1 xs x1 = -cmpD s1 xs x1 s2 ys x2 := by
  rw [cmpD_val h1 h2, cmpD_val h2 h1]
  rcases cmpI_tri (vD s1 xs x1) (vD s2 ys x2) with ⟨e, g⟩ | ⟨e, g⟩ | ⟨e, g⟩ <;> rcases cmpI_tri (vD s2 ys x2) (vD s1 xs x1) with ⟨e', g'⟩ | ⟨e', g'⟩ | ⟨e', g'⟩ <;> rw [e, e'] <;> omega
theorem join_ok {s1 s2 s3 s4 : Bool} {l1 l2 l3 l4 : List Int} {e1 e2 e3 e4 : Int} (h : iokB s1 l1 e1 s2 l2 e2 = true) (h' : iokB s3 l3 e3 s4 l4 e4 = true) :
    iokB (pk (mnB s1 l1 e1 s3 l3 e3) s1 s3) (pk (mnB s1 l1 e1 s3 l3 e3) l1 l3) (pk (mnB s1 l1 e1 s3 l3 e3) e1 e3) (pk (mxB s2 l2 e2 s4 l4 e4) s2 s4) (pk (mxB s2 l2 e2 s4 l4 e4) l2 l4) (pk (mxB s2 l2 e2 s4 l4 e4) e2 e4) = true := by
  obtain ⟨o1, o2, c12⟩ := iok_parts h
  obtain ⟨o3, o4, c34⟩ := iok_parts h'
  rw [cmpD_val o1 o2] at c12
  rw [cmpD_val o3 o4] at c34
  have g1 : vD s1 l1 e1 ≤ vD s2 l2 e2 := by rcases cmpI_tri (vD s1 l1 e1) (vD s2 l2 e2) with ⟨e, g⟩ | ⟨e, g⟩ | ⟨e, g⟩ <;> omega
  have g2 : vD s3 l3 e3 ≤ vD s4 l4 e4 := by rcases cmpI_tri (vD s3 l3 e3) (vD s4 l4 e4) with ⟨e, g⟩ | ⟨e, g⟩ | ⟨e, g⟩ <;> omega
  unfold iokB
  rw [dok_pk _ o1 o3, dok_pk _ o2 o4, Bool.true_and, Bool.true_and, decide_eq_true_eq, cmpD_val (dok_pk _ o1 o3) (dok_pk _ o2 o4)]
  have q1 : mnB s1 l1 e1 s3 l3 e3 = decide (0 < cmpI (vD s1 l1 e1) (vD s3 l3 e3)) := by unfold mnB; rw [cmpD_val o1 o3]
  have q2 : mxB s2 l2 e2 s4 l4 e4 = decide (cmpI (vD s2 l2 e2) (vD s4 l4 e4) < 0) := by unfold mxB; rw [cmpD_val o2 o4]
  have key : ∀ (A E : Int), A ≤ E → cmpI A E ≤ 0 := fun A E hh => by rcases cmpI_tri A E with ⟨e, g⟩ | ⟨e, g⟩ | ⟨e, g⟩ <;> omega
  apply key
  rcases cmpI_tri (vD s1 l1 e1) (vD s3 l3 e3) with ⟨e, g⟩ | ⟨e, g⟩ | ⟨e, g⟩ <;> rcases cmpI_tri (vD s2 l2 e2) (vD s4 l4 e4) with ⟨e', g'⟩ | ⟨e', g'⟩ | ⟨e', g'⟩ <;> rw [q1, q2, e, e'] <;> simp [pk] <;> omega

end Go.Proofs.YtgdgkncielliaaaDoor
