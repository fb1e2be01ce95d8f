/-
  How long the answers of WholeDiv are.
-/
import Derived.Test.YtmoeeoninbphiaaWd4
import Derived.Test.YtmoeeoninbphiaaLawW3
namespace Go.Proofs.Ytmoeeoninbphiaa
open Go.RowKit
set_option linter.unusedVariables false

theorem wvQ_len (s1 s2 : Bool) (xs ys : List Int) : (wvQ s1 s2 xs ys).length ≤ 100 := by
  unfold wvQ
  split
  · rename_i h
    unfold wvB at h
    simp only [Bool.and_eq_true, decide_eq_true_eq] at h
    exact h.2
  · simp

theorem wvR_len (s1 s2 : Bool) (xs ys : List Int) : (wvR s1 s2 xs ys).length ≤ 100 := by
  unfold wvR
  split
  · rename_i h
    unfold wvB at h
    simp only [Bool.and_eq_true, decide_eq_true_eq] at h
    obtain ⟨⟨⟨h1, h2⟩, h3⟩, h4⟩ := h
    obtain ⟨-, -, ly, hy⟩ := wok_int h2
    exact Nat.le_trans (wdR_len s1 (nrm_pos hy h3) hy) ly
  · simp

end Go.Proofs.Ytmoeeoninbphiaa
