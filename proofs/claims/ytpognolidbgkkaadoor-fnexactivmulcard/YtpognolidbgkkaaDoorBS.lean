/-
  Contracts that the proofs of this seat share: Dy8, Dy9, DyR, Fl1, FlNm, DivQ.
-/
import Derived.Test.YtpognolidbgkkaaDoorDy7
import Derived.Test.YtpognolidbgkkaaDoorBR
import Derived.Test.YtpognolidbgkkaaDoorBA
import Derived.Test.YtpognolidbgkkaaDoorChecked
import Derived.WalkSpells
import Derived.WalkLawsBesides
namespace Go.Proofs.YtpognolidbgkkaaDoor
open Go.RowKit
set_option linter.unusedVariables false
set_option maxRecDepth 8000
set_option linter.unusedSimpArgs false

theorem wval_lt {s : Bool} {zs : List Int} (h : Lim zs) : (wval s zs).natAbs < 2 ^ (16 * zs.length) := by
  rw [wval_abs h]
  have h1 := val_lt h
  have h2 := val_nonneg h
  rw [pow_limb] at h1
  omega
end Go.Proofs.YtpognolidbgkkaaDoor

