/-
  Contracts that the proofs of this seat share: Wrk4, Rnd2, Rnd1, Step2, Rnd3, Rnd4.
-/
import Derived.Test.YtpognolidbgkkaaDoorDy7
import Derived.Test.YtpognolidbgkkaaDoorBV
import Derived.Test.YtpognolidbgkkaaDoorBA
import Derived.Test.YtpognolidbgkkaaDoorChecked
import Derived.Test.YtpognolidbgkkaaDoorBC
import Derived.Deep.DeepCutAuto
import Derived.WalkSpells
import Derived.WalkLawsBesides
import Derived.Test.YtpognolidbgkkaaDoorBK
import Derived.Test.YtpognolidbgkkaaDoorDy6
namespace Go.Proofs.YtpognolidbgkkaaDoor
open Go.RowKit
set_option linter.unusedVariables false
set_option maxRecDepth 8000
set_option linter.unusedSimpArgs false

/-- The fourth cell of a block. -/
def Mo (w : World) (g : Nat) (b : Bool) : Prop := w.cell? ⟨g, 3, none⟩ = some (.bool b) ∧ w.frozen? ⟨g, 3, none⟩ = false
theorem Mo.side {w w' : World} {g : Nat} {x : Bool} (h : Mo w g x) (k : SameSide g w w') : Mo w' g x := ⟨(k 3 (by omega)).1.trans h.1, (k 3 (by omega)).2.trans h.2⟩
theorem Mo.lt {w : World} {g : Nat} {x : Bool} (h : Mo w g x) : g < w.heap.size := World.block_lt_of_cell? _ ⟨g, 3, none⟩ h.1
theorem Mo.kept {w w' : World} {g : Nat} {x : Bool} (h : Mo w g x) (k : Kept 0 0 w w') : Mo w' g x := h.side (k.side h.lt)


/-- A block of four bools. -/
def Bx4 (w : World) (X : Nat) (a b c d : Bool) : Prop := w.cell? ⟨X, 0, none⟩ = some (.bool a) ∧ w.cell? ⟨X, 1, none⟩ = some (.bool b) ∧ w.cell? ⟨X, 2, none⟩ = some (.bool c) ∧ w.cell? ⟨X, 3, none⟩ = some (.bool d)
theorem Bx4.set {w : World} {X : Nat} {p q r t : Value} (a b c d : Bool) (h0 : w.cell? ⟨X, 0, none⟩ = some p) (h1 : w.cell? ⟨X, 1, none⟩ = some q) (h2 : w.cell? ⟨X, 2, none⟩ = some r) (h3 : w.cell? ⟨X, 3, none⟩ = some t) :
    Bx4 ((((w.setCell ⟨X, 0, none⟩ (.bool a)).setCell ⟨X, 1, none⟩ (.bool b)).setCell ⟨X, 2, none⟩ (.bool c)).setCell ⟨X, 3, none⟩ (.bool d)) X a b c d :=
  ⟨cell_off _ _ _ _ _ _ (cell_off _ _ _ _ _ _ (cell_off _ _ _ _ _ _ (cell_on _ _ _ _ _ h0) (by decide)) (by decide)) (by decide),
   cell_off _ _ _ _ _ _ (cell_off _ _ _ _ _ _ (cell_on _ _ _ _ _ (cell_off _ _ _ _ _ _ h1 (by decide))) (by decide)) (by decide),
   cell_off _ _ _ _ _ _ (cell_on _ _ _ _ _ (cell_off _ _ _ _ _ _ (cell_off _ _ _ _ _ _ h2 (by decide)) (by decide))) (by decide),
   cell_on _ _ _ _ _ (cell_off _ _ _ _ _ _ (cell_off _ _ _ _ _ _ (cell_off _ _ _ _ _ _ h3 (by decide)) (by decide)) (by decide))⟩
theorem Bx4.mod {S : Nat → Prop} {w w' : World} {X : Nat} {a b c d : Bool} (h : Bx4 w X a b c d) (k : Mod S w w') (hS : ¬ S X) : Bx4 w' X a b c d :=
  ⟨k.cell (a := ⟨X, 0, none⟩) hS h.1, k.cell (a := ⟨X, 1, none⟩) hS h.2.1, k.cell (a := ⟨X, 2, none⟩) hS h.2.2.1, k.cell (a := ⟨X, 3, none⟩) hS h.2.2.2⟩


end Go.Proofs.YtpognolidbgkkaaDoor

