/-
  Contracts that the proofs of this seat share: Ad8, Ad9.
-/
import Derived.Test.YtefnblaphkookaaGreatDoorTw
import Derived.Test.YtefnblaphkookaaGreatDoorBC
import Derived.Test.YtefnblaphkookaaGreatDoorDy8
import Derived.Deep.DeepCutAuto
import Derived.Deep.RegionHeld3
import Derived.Test.YtefnblaphkookaaGreatDoorDy9
namespace Go.Proofs.YtefnblaphkookaaGreatDoor
open Go.RowKit
set_option linter.unusedVariables false
set_option maxRecDepth 8000
set_option linter.unusedSimpArgs false

/-- A sum's number, or a difference's. -/
def sgV (ng : Bool) (ds1 ds2 : List DE) (p : Nat) : Int := dv (-3000) (ds1.getD p de0) + (if ng = true then -dv (-3000) (ds2.getD p de0) else dv (-3000) (ds2.getD p de0))
theorem neg_dv {s : Bool} {z : List Int} {y : Int} (h : dokB s z y = true) : dv (-3000) (wsg (-wval s z), wlm (-wval s z), y) = -dv (-3000) (s, z, y) := by
  unfold dv
  dsimp only
  rw [(dok_neg h).2, Int.neg_mul]
theorem add_nE {a b : DE} (h1 : dOkE a = true) (h2 : dOkE b = true) : nE (sumM a b) (min a.2.2 b.2.2) = nE (dv (-3000) a + dv (-3000) b) (-3000) :=
  sum_nE (dok_nv h1 (Int.le_refl _)).1 (dok_nv h2 (Int.le_refl _)).1

end Go.Proofs.YtefnblaphkookaaGreatDoor

namespace Go.Proofs.YtefnblaphkookaaGreatDoor
open Go.RowKit
set_option linter.unusedVariables false
set_option maxRecDepth 8000
set_option linter.unusedSimpArgs false

theorem sgV_lt {ng : Bool} {ds1 ds2 : List DE} {p : Nat} (h1 : dOkE (ds1.getD p de0) = true) (h2 : dOkE (ds2.getD p de0) = true) : (sgV ng ds1 ds2 p).natAbs < 2 ^ AA := by
  obtain ⟨A, hA⟩ : ∃ A : Nat, A = 7600 := ⟨_, rfl⟩
  refine lt_up (A := A + 1) ?_ (by unfold AA; omega)
  unfold sgV
  refine add_lt (dv_lt h1 hA) ?_
  split
  · exact neg_lt (dv_lt h2 hA)
  · exact dv_lt h2 hA

end Go.Proofs.YtefnblaphkookaaGreatDoor
