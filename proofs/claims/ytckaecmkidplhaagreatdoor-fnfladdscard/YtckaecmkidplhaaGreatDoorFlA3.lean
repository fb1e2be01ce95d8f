/-
  Sums of floats: what they are.
-/
import Derived.Test.YtckaecmkidplhaaGreatDoorFlA2
import Derived.Test.YtckaecmkidplhaaGreatDoorFlRd
import Derived.Deep.RegionHeld3
import Derived.Deep.DeepCutAuto
namespace Go.Proofs.YtckaecmkidplhaaGreatDoor
open Go.RowKit
set_option linter.unusedVariables false
set_option maxRecDepth 8000
set_option linter.unusedSimpArgs false

/-- A sum of floats, rounded; its flags. -/
def addQ (k1 : Int) (n1 : Bool) (m1 e1 k2 : Int) (n2 : Bool) (m2 e2 mode : Int) : (Int × Bool × Int × Int) × Int :=
  if k1 = 3 ∨ k2 = 3 then ((3, false, 0, 0), 0)
  else if k1 = 2 ∧ k2 = 2 ∧ (n1 == n2) = false then ((3, false, 0, 0), 16)
  else if k1 = 2 then ((2, n1, 0, 0), 0)
  else if k2 = 2 then ((2, n2, 0, 0), 0)
  else rndQ mode (fM k1 n1 m1 * 2 ^ (e1 - min e1 e2).toNat + fM k2 n2 m2 * 2 ^ (e2 - min e1 e2).toNat) (min e1 e2) (if k1 = 0 ∧ k2 = 0 ∧ n1 = n2 then n1 else (mode == 3))
end Go.Proofs.YtckaecmkidplhaaGreatDoor

