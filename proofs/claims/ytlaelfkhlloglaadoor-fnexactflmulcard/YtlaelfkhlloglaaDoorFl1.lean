/-
  Floats as they are handed over: what is one (FlOk), the model's and the program's; the laws' helpers over them.
-/
import Derived.Test.YtlaelfkhlloglaaDoorBA
import Derived.Test.YtlaelfkhlloglaaDoorChecked
import Derived.WalkSpells
import Derived.WalkLawsBesides
namespace Go.Proofs.YtlaelfkhlloglaaDoor
open Go.RowKit
set_option linter.unusedVariables false

/-- A float as it is handed over. -/
abbrev flv (k : Int) (n : Bool) (m e : Int) : Value := .agg #[.int .i64 k, .bool n, .int .i64 m, .int .i64 e]

/-- Its cells. -/
abbrev flc (k : Int) (n : Bool) (m e : Int) (t : TypeId) : Obj := .cells #[.int .i64 k, .bool n, .int .i64 m, .int .i64 e] t

/-- Whether it is one. -/
def flok (k : Int) (n : Bool) (m e : Int) : Bool :=
  if k = 1 then decide (-1074 ≤ e ∧ e ≤ 971 ∧ 1 ≤ m ∧ m ≤ 9007199254740991 ∧ (4503599627370496 ≤ m ∨ e = -1074))
  else if k = 0 ∨ k = 2 then decide (m = 0 ∧ e = 0) else if k = 3 then decide (m = 0 ∧ e = 0 ∧ n = false) else false

theorem flok_ways {k : Int} {n : Bool} {m e : Int} (h : flok k n m e = true) :
    (k = 1 ∧ -1074 ≤ e ∧ e ≤ 971 ∧ 1 ≤ m ∧ m ≤ 9007199254740991 ∧ (4503599627370496 ≤ m ∨ e = -1074)) ∨ (k = 0 ∧ m = 0 ∧ e = 0) ∨ (k = 2 ∧ m = 0 ∧ e = 0) ∨ (k = 3 ∧ m = 0 ∧ e = 0 ∧ n = false) := by
  unfold flok at h
  split at h
  · simp at h; exact .inl ⟨by assumption, h⟩
  split at h
  · rename_i h1; simp at h; rcases h1 with h1 | h1
    · exact .inr (.inl ⟨h1, h⟩)
    · exact .inr (.inr (.inl ⟨h1, h⟩))
  split at h
  · simp at h; exact .inr (.inr (.inr ⟨by assumption, h⟩))
  · cases h

set_option maxHeartbeats 400000 in
theorem flok_spec (k : Int) (n : Bool) (m e : Int) (w : World) :
    Calls Tryd.prog 26 #[flv k n m e] w fun r w' => r = .returned (.bool (flok k n m e)) ∧ w' = w.alloc (flc k n m e 24) := by
  go_enter Tryd.func26, Tryd.ntmps26
  go_wp2
  all_goals (go_ret; refine ⟨?_, by simp_all⟩; congr 2; unfold flok; simp_all <;> first | omega | grind)

set_option maxHeartbeats 400000 in
theorem flok_impl (k : Int) (n : Bool) (m e : Int) (w : World) :
    Calls Tryd.prog 17 #[flv k n m e] w fun r w' => r = .returned (.bool (flok k n m e)) ∧ w' = w.alloc (flc k n m e 24) := by
  go_enter Tryd.func17, Tryd.ntmps17
  go_wp2
  all_goals (go_ret; refine ⟨?_, by simp_all⟩; congr 2; unfold flok; simp_all <;> first | omega | grind)

theorem flok_spec_eq {k : Int} {n : Bool} {m e : Int} {b : Bool} (h : flok k n m e = b) (w : World) :
    Calls Tryd.prog 26 #[flv k n m e] w fun r w' => r = .returned (.bool b) ∧ w' = w.alloc (flc k n m e 24) := by
  subst h
  exact flok_spec k n m e w

theorem flok_impl_eq {k : Int} {n : Bool} {m e : Int} {b : Bool} (h : flok k n m e = b) (w : World) :
    Calls Tryd.prog 17 #[flv k n m e] w fun r w' => r = .returned (.bool b) ∧ w' = w.alloc (flc k n m e 24) := by
  subst h
  exact flok_impl k n m e w

set_option maxHeartbeats 400000 in
theorem toFl_any (k : Int) (n : Bool) (m e : Int) (w : World) :
    Calls Tryd.prog 7 #[flv k n m e] w fun r w' => r = .returned (flv k n m e) ∧ w' = ((w.alloc (flc k n m e 23)).alloc (flc k n m e 24)).alloc (flc k n m e 24) := by
  go_enter Tryd.func7, Tryd.ntmps7
  go_wp2
  first
    | (go_ret; exact ⟨rfl, rfl⟩)
    | exact bodyPost_ret (v := flv k n m e) (by simp [results, Tryd.results7, go_sem]) rfl ⟨rfl, rfl⟩

set_option maxHeartbeats 400000 in
theorem eqFl_same (k : Int) (n : Bool) (m e : Int) (w : World) :
    Calls Tryd.prog 9 #[flv k n m e, flv k n m e] w fun r w' => r = .returned (.bool true) ∧ w' = (w.alloc (flc k n m e 24)).alloc (flc k n m e 24) := by
  go_enter Tryd.func9, Tryd.ntmps9
  go_wp2
  go_ret
  exact ⟨rfl, rfl⟩

end Go.Proofs.YtlaelfkhlloglaaDoor
