/-
  The model's l3div: a quotient whose rest is not below nought.
-/
import Derived.Test.YtpeaghaojfbbnaaNat16
import Derived.Test.YtpeaghaojfbbnaaBE
import Derived.Test.YtpeaghaojfbbnaaBB
import Derived.Test.YtpeaghaojfbbnaaBC
import Derived.Test.YtpeaghaojfbbnaaBJ
import Derived.Deep.DeepCutAuto
import Derived.Deep.RegionHeld3
namespace Go.Proofs.Ytpeaghaojfbbnaa
open Go.RowKit
set_option linter.unusedVariables false
set_option maxRecDepth 8000
set_option linter.unusedSimpArgs false

/-- Does the divisor go in once more? -/
def wdO (s : Bool) (xs ys : List Int) : Bool := s && decide (val xs % val ys ≠ 0)
def wdQ (s : Bool) (xs ys : List Int) : List Int := if wdO s xs ys = true then limbs (val xs / val ys + 1).toNat else limbs (val xs / val ys).toNat
def wdR (s : Bool) (xs ys : List Int) : List Int := if wdO s xs ys = true then limbs (val ys - val xs % val ys).toNat else limbs (val xs % val ys).toNat

theorem in_l3makeD : ∀ (w : World) (args : Array Value), (callFunc 40 args).run Try.prog w = .ok (.enter 40 args) w := enters Try.func40 (by decide) (fun h => by cases h)

theorem in_l2ofD : ∀ (w : World) (args : Array Value), (callFunc 56 args).run Try.prog w = .ok (.enter 56 args) w := enters Try.func56 (by decide) (fun h => by cases h)

end Go.Proofs.Ytpeaghaojfbbnaa
