/-
  What the draws of natural numbers leave: lists of the call's own.
-/
import Derived.Test.YtckaecmkidplhaaGreatDoorBB
import Derived.Test.YtckaecmkidplhaaGreatDoorDraw
namespace Go.Proofs.YtckaecmkidplhaaGreatDoor
open Go.RowKit
set_option linter.unusedVariables false
set_option maxRecDepth 8000

theorem Drew.kept {g lo : Nat} {w w' : World} (h : Drew g lo w w') : Kept g (g + 1) w w' := h.2.1
/-- What a draw that makes memory leaves: the cursor's block alone, of what was there, may have turned. -/
def Drawn (g lo : Nat) (w w' : World) : Prop := Cur g lo w' ∧ Kept g (g + 1) w w'
theorem Drew.drawn {g lo : Nat} {w w' : World} (h : Drew g lo w w') : Drawn g lo w w' := ⟨h.1, h.2.1⟩
theorem Drawn.trans {g lo : Nat} {a b c : World} (h : Drawn g lo a b) (k : Drawn g lo b c) : Drawn g lo a c := ⟨k.1, h.2.trans k.2⟩
theorem Drawn.keptR {g lo : Nat} {a b c : World} (h : Drawn g lo a b) (k : Kept 0 0 b c) : Drawn g lo a c := ⟨h.1.kept k (by omega), h.2.trans k.any⟩

end Go.Proofs.YtckaecmkidplhaaGreatDoor

