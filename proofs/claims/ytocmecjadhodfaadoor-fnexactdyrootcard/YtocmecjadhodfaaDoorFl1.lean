/-
  Floats as they are handed over: what is one (FlOk), the model's and the program's; the laws' helpers over them.
-/
import Derived.Test.YtocmecjadhodfaaDoorBA
import Derived.Test.YtocmecjadhodfaaDoorChecked
import Derived.WalkSpells
import Derived.WalkLawsBesides
namespace Go.Proofs.YtocmecjadhodfaaDoor
open Go.RowKit
set_option linter.unusedVariables false

/-- A float as it is handed over. -/
abbrev flv (k : Int) (n : Bool) (m e : Int) : Value := .agg #[.int .i64 k, .bool n, .int .i64 m, .int .i64 e]

/-- Its cells. -/
abbrev flc (k : Int) (n : Bool) (m e : Int) (t : TypeId) : Obj := .cells #[.int .i64 k, .bool n, .int .i64 m, .int .i64 e] t

/-- Whether it is one. -/
def flok (k : Int) (n : Bool) (m e : Int) : Bool :=
  if k = 1 then decide (-1074 ≤ e ∧ e ≤ 971 ∧ 1 ≤ m ∧ m ≤ 9007199254740991 ∧ (4503599627370496 ≤ m ∨ e = -1074))
  else if k = 0 ∨ k = 2 then decide (m = 0 ∧ e = 0) else if k = 3 then decide (m = 0 ∧ e = 0 ∧ n = false) else false

theorem flok_ways {k : Int} {n : Bool} {m e : Int} (h : flok k n m e = true) :
    (k = 1 ∧ -1074 ≤ e ∧ e ≤ 971 ∧ 1 ≤ m ∧ m ≤ 9007199254740991 ∧ (4503599627370496 ≤ m ∨ e = -1074)) ∨ (k = 0 ∧ m = 0 ∧ e = 0) ∨ (k = 2 ∧ m = 0 ∧ e = 0) ∨ (k = 3 ∧ m = 0 ∧ e = 0 ∧ n = false) := by
  unfold flok at h
  split at h
  · simp at h; exact .inl ⟨by assumption, h⟩
  split at h
  · rename_i h1; simp at h; rcases h1 with h1 | h1
    · exact .inr (.inl ⟨h1, h⟩)
    · exact .inr (.inr (.inl ⟨h1, h⟩))
  split at h
  · simp at h; exact .inr (.inr (.inr ⟨by assumption, h⟩))
  · cases h

end Go.Proofs.YtocmecjadhodfaaDoor
