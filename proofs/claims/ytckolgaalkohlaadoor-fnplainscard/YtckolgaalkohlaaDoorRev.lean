/-
  slices.Reverse over bytes: the same row, the other way round.
-/
import Derived.Test.YtckolgaalkohlaaDoorBA
import Derived.Deep.LoopGhost
import Derived.Shelf.RegionOpenPlain
import Derived.Lib.Walk
namespace Go.Proofs.YtckolgaalkohlaaDoor
open Go.RowKit
set_option linter.unusedVariables false
set_option maxRecDepth 8000

theorem rev_of {zs ys : List Int} {i : Nat} (hl : ys.length = zs.length) (hi : zs.length ≤ 2 * i + 1)
    (h : ∀ p, p < zs.length → ys.getD p 0 = if p < i ∨ zs.length - 1 - p < i then zs.getD (zs.length - 1 - p) 0 else zs.getD p 0) : ys = zs.reverse := by
  apply List.ext_getElem (by simp [hl])
  intro p h1 h2
  have hp : p < zs.length := by omega
  have e := h p hp
  have e1 : ys.getD p 0 = ys[p] := by simp [List.getD, h1]
  have e2 : zs.getD (zs.length - 1 - p) 0 = zs.reverse[p] := by
    rw [List.getElem_reverse]
    simp [List.getD, show zs.length - 1 - p < zs.length by omega]
  rw [← e1, ← e2, e]
  split
  · rfl
  · rw [show zs.length - 1 - p = p by omega]

end Go.Proofs.YtckolgaalkohlaaDoor
