/-
  The program's whole numbers: WholeOk, and the methods of numbers with a sign.
-/
import Derived.Test.YtlaelfkhlloglaaDoorISide
import Derived.Test.YtlaelfkhlloglaaDoorWh3
import Derived.Test.YtlaelfkhlloglaaDoorINat22
import Derived.Test.YtlaelfkhlloglaaDoorBC
namespace Go.Proofs.YtlaelfkhlloglaaDoor
open Go.RowKit
set_option linter.unusedVariables false
set_option maxRecDepth 8000
set_option linter.unusedSimpArgs false

/-- The second cell of block g tells the sign s, and may be written. -/
def Sd (w : World) (g : Nat) (s : Bool) : Prop := w.cell? ⟨g, 1, none⟩ = some (.bool s) ∧ w.frozen? ⟨g, 1, none⟩ = false
theorem Sd.same {w w' : World} {g : Nat} {s : Bool} (h : Sd w g s) (k : SameSide g w w') : Sd w' g s := ⟨(k 1 (Nat.le_refl 1)).1.trans h.1, (k 1 (Nat.le_refl 1)).2.trans h.2⟩
theorem Sd.lt {w : World} {g : Nat} {s : Bool} (h : Sd w g s) : g < w.heap.size := World.block_lt_of_cell? _ ⟨g, 1, none⟩ h.1
theorem Sd.kept {w w' : World} {g : Nat} {s : Bool} (h : Sd w g s) (k : Kept 0 0 w w') : Sd w' g s := h.same (k.side h.lt)

end Go.Proofs.YtlaelfkhlloglaaDoor
