/-
  Contracts of NatCmp, the model's and the program's.
-/
import Derived.Test.YtbihbloknmjfjaaDoorINat7
import Derived.Test.YtbihbloknmjfjaaDoorBC
import Derived.Deep.RegionHeld3
namespace Go.Proofs.YtbihbloknmjfjaaDoor
open Go.RowKit
set_option linter.unusedVariables false
set_option maxRecDepth 8000
set_option linter.unusedSimpArgs false

/-- What NatCmp tells. -/
def cmpN (xs ys : List Int) : Int := if okB xs = true ∧ okB ys = true then cmpI (val xs) (val ys) else 0
theorem cmpN_bad1 {xs ys : List Int} (h : okB xs = false) : cmpN xs ys = 0 := by unfold cmpN; rw [if_neg (fun e => by rw [h] at e; cases e.1)]
theorem cmpN_bad2 {xs ys : List Int} (h : okB ys = false) : cmpN xs ys = 0 := by unfold cmpN; rw [if_neg (fun e => by rw [h] at e; cases e.2)]
theorem cmpN_ok {xs ys : List Int} (h1 : okB xs = true) (h2 : okB ys = true) : cmpN xs ys = cmpI (val xs) (val ys) := by unfold cmpN; rw [if_pos ⟨h1, h2⟩]

theorem compare_two {w0 W : World} {g1 g2 : Nat} {xs ys : List Int} (h : ∃ u1 u2, Two w0 W g1 g2 u1 u2 xs ys) (hx : Nrm xs) (hy : Nrm ys) :
    Calls Tryd.prog 101 #[.pointer (some ⟨g1, 0, none⟩), .pointer (some ⟨g2, 0, none⟩)] W fun e w' => e = .returned (.int .i64 (cmpI (val xs) (val ys))) ∧ (∃ u1 u2, Two w0 w' g1 g2 u1 u2 xs ys) := by
  obtain ⟨u1, u2, t⟩ := h
  refine (compare_impl W t.n1 t.n2 hx hy).mono ?_
  rintro e w' ⟨rfl, k⟩
  exact ⟨rfl, u1, u2, t.n1.kept k, t.n2.kept k, t.ne, t.o12, t.o21, t.oo, t.k.trans k, t.b1, t.b2⟩

end Go.Proofs.YtbihbloknmjfjaaDoor
