/-
  Dyadic numbers: the program's makeOdd and toldDyadic.
-/
import Derived.Test.YtckaecmkidplhaaGreatDoorDy6
import Derived.Test.YtckaecmkidplhaaGreatDoorDy5a
namespace Go.Proofs.YtckaecmkidplhaaGreatDoor
open Go.RowKit
set_option linter.unusedVariables false
set_option maxRecDepth 8000
set_option linter.unusedSimpArgs false

theorem Work.set2 {b g : Nat} {w : World} {v : Value} {zs : List Int} (h : Work b w g v zs) (u : Value) : Work b (w.setCell ⟨g, 2, none⟩ u) g v zs :=
  ⟨(side_setAt w g 2 0 u (by decide)).trans h.cell, by rw [frozen_set]; exact h.loose, by rw [size_set]; exact h.row.aside h.apart u, h.apart⟩
end Go.Proofs.YtckaecmkidplhaaGreatDoor

