/-
  The program's takeDigit: a number without its lowest decimal digit, and that digit.
-/
import Derived.Test.YtckolgaalkohlaaDoorINat24
import Derived.Test.YtckolgaalkohlaaDoorBF
import Derived.Test.YtckolgaalkohlaaDoorBB
namespace Go.Proofs.YtckolgaalkohlaaDoor
open Go.RowKit
set_option linter.unusedVariables false
set_option maxRecDepth 8000
set_option linter.unusedSimpArgs false

theorem digit_step (zs ys : List Int) (p : Nat) (r : Int) (hp : p < ys.length) (hr : 0 ≤ r) (hx : 0 ≤ zs.getD p 0) (h : val (zs.drop (p + 1)) = 10 * val (ys.drop (p + 1)) + r) :
    val (zs.drop p) = 10 * val ((ys.set p ((r * 65536 + zs.getD p 0) / 10)).drop p) + (r * 65536 + zs.getD p 0) % 10 := by
  rw [val_drop zs p, h, set_drop ys p _ hp]
  generalize zs.getD p 0 = x at *
  generalize val (ys.drop (p + 1)) = Y at *
  omega
theorem set_take (zs ys : List Int) (p : Nat) (z : Int) (h : ys.take (p + 1) = zs.take (p + 1)) : (ys.set p z).take p = zs.take p := by
  have h2 := congrArg (List.take p) h
  rw [List.take_take, List.take_take, Nat.min_eq_left (by omega)] at h2
  rw [← h2]
  exact List.take_set_of_le (Nat.le_refl p)
theorem getD_take {zs ys : List Int} {p : Nat} (h : ys.take (p + 1) = zs.take (p + 1)) : ys.getD p 0 = zs.getD p 0 := by
  have h2 := congrArg (fun l : List Int => l.getD p 0) h
  simpa [List.getD, List.getElem?_take] using h2

end Go.Proofs.YtckolgaalkohlaaDoor
