/-
  The program's trim: noughts at the high end are cut off.
-/
import Derived.Test.YtededkklgfhabaaINat11
import Derived.Deep.QuietTactic
import Derived.BigQuiet
import Derived.BigRegion
namespace Go.Proofs.Ytededkklgfhabaa
open Go.RowKit
set_option linter.unusedVariables false
set_option maxRecDepth 8000

theorem Num.cut {b g gb cap : Nat} {w : World} {zs : List Int} {n : Nat} (h : Num b w g (.slice (some ⟨gb, 0, none⟩) n cap) zs) (hn : n = zs.length) (j : Nat) (hj : j ≤ zs.length) :
    Num b (w.setCell ⟨g, 0, none⟩ (.slice (some ⟨gb, 0, none⟩) j cap)) g (.slice (some ⟨gb, 0, none⟩) j cap) (zs.take j) := by
  subst hn
  exact ⟨cell_on _ _ _ _ _ h.cell, by rw [frozen_set]; exact h.loose, own_apart (own_take h.own j hj) (p := ⟨g, 0, none⟩) (fun e => h.apart e) _, fun e => h.apart e⟩

/-- How long the list is that the cell g holds. -/
def lenAt (w : World) (g : Nat) : Nat := match w.cell? ⟨g, 0, none⟩ with
  | some (.slice _ n _) => n
  | _ => 0
theorem lenAt_of {w : World} {g : Nat} {a : Option Addr} {n c : Nat} (h : w.cell? ⟨g, 0, none⟩ = some (.slice a n c)) : lenAt w g = n := by unfold lenAt; rw [h]

end Go.Proofs.Ytededkklgfhabaa
