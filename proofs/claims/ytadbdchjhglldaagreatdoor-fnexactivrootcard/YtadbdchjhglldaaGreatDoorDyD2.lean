/-
  Quotients of dyadic numbers: the model's l4quot.
-/
import Derived.Test.YtadbdchjhglldaaGreatDoorBS
import Derived.Test.YtadbdchjhglldaaGreatDoorBM
import Derived.Test.YtadbdchjhglldaaGreatDoorDy6
import Derived.Deep.DeepCutAuto
import Derived.Deep.RegionHeld3
namespace Go.Proofs.YtadbdchjhglldaaGreatDoor
open Go.RowKit
set_option linter.unusedVariables false
set_option maxRecDepth 8000
set_option linter.unusedSimpArgs false

theorem len_pos_limbs {n : Nat} (h : n ≠ 0) : 0 < (limbs n).length := by
  rcases Nat.eq_zero_or_pos (limbs n).length with e | e
  · have e2 := List.length_eq_zero_iff.1 e
    have e3 := limbs_val n
    rw [e2] at e3
    simp [val] at e3
    omega
  · exact e
end Go.Proofs.YtadbdchjhglldaaGreatDoor

