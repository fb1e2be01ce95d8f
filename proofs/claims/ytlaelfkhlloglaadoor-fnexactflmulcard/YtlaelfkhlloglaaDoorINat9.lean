/-
  Contracts of NatCmp, the model's and the program's.
-/
import Derived.Test.YtlaelfkhlloglaaDoorINat7
import Derived.Test.YtlaelfkhlloglaaDoorBC
import Derived.Deep.RegionHeld3
namespace Go.Proofs.YtlaelfkhlloglaaDoor
open Go.RowKit
set_option linter.unusedVariables false
set_option maxRecDepth 8000
set_option linter.unusedSimpArgs false

/-- What NatCmp tells. -/
def cmpN (xs ys : List Int) : Int := if okB xs = true ∧ okB ys = true then cmpI (val xs) (val ys) else 0
theorem cmpN_bad1 {xs ys : List Int} (h : okB xs = false) : cmpN xs ys = 0 := by unfold cmpN; rw [if_neg (fun e => by rw [h] at e; cases e.1)]
theorem cmpN_bad2 {xs ys : List Int} (h : okB ys = false) : cmpN xs ys = 0 := by unfold cmpN; rw [if_neg (fun e => by rw [h] at e; cases e.2)]
theorem cmpN_ok {xs ys : List Int} (h1 : okB xs = true) (h2 : okB ys = true) : cmpN xs ys = cmpI (val xs) (val ys) := by unfold cmpN; rw [if_pos ⟨h1, h2⟩]

end Go.Proofs.YtlaelfkhlloglaaDoor
