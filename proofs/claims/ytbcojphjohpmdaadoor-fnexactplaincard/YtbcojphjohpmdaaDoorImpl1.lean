/-
  Contracts of RuneAt, the model's and the program's, over a slice of bytes that can be read.
-/
import Derived.Test.YtbcojphjohpmdaaDoorSpec2
import Derived.WalkSpells
import Derived.WalkLawsBesides
namespace Go.Proofs.YtbcojphjohpmdaaDoor
open Go.RowKit
set_option linter.unusedVariables false

/-- The rune at a place that may lie outside. -/
def arune (zs : List Int) (p : Int) : Int × Int := if 0 ≤ p ∧ p < zs.length then drune zs p.toNat else (0, 0)

theorem arune_at (zs : List Int) (p : Nat) (h : p < zs.length) : arune zs (p : Int) = drune zs p := by unfold arune; rw [if_pos (by omega)]; rfl

end Go.Proofs.YtbcojphjohpmdaaDoor
