/-
  DERIVED. GIVEN WITH THE SEED: THE CARDS: each row of YtgoncjcnakkaoaaGreatDoorRows.lean that lists a variable, with what it lists TIED to the program's text (the seventh form; the later family's looks); each row that meets fmt, with fmt's text TOLD by the authors' own Lean function (tested against real Go, not proved from fmt's source: count such statements apart). THE CARD IS WHAT COUNTS. Prove the row's statement (the work); the ties are given (YtgoncjcnakkaoaaGreatDoorTie.lean); close each card by the builder's one call (the guide's Derived/Test/ToyasCard.lean, 'card_holds'). Laid BY PROGRAM, IN A SANDBOX (cutbox-door.mjs). By AI agents, Wed Nov 11 2026. No macro, syntax, notation, axiom, sorry.
-/
import Derived.Test.YtgoncjcnakkaoaaGreatDoorRows
import GoSem.ClaimSeven
namespace Go.Proofs.YtgoncjcnakkaoaaGreatDoor
namespace Rows

/-- THE TIED CARD OF 'laws.FnExactMatNorm'. -/
def fnExactMatNormCard : Claim7 := { stood := { row := fnExactMatNormRow, standIns := [], harness := (true, "ad5a14f5c053b5c1b152b08dacffec8600d09c38779d3883edf961f271c5e81e"), looks := false }, kinds := [], alts := [], laidByText := true, laidKinds := [.data, .data], laidTests := true, laidLooks := .later }
def FnExactMatNormCardSaid : Prop := Claim7.holds Tryz.pinned (.plain (OpenSpec.ofChange fnExactMatNormSpec)) fnExactMatNormCard

/-- THE SECOND FORM's CARD OF 'laws.FnExactMatNorm'. -/
def fnExactMatNormUptoCard : Claim7 := { stood := { row := fnExactMatNormUptoRow, standIns := [], harness := (true, "ad5a14f5c053b5c1b152b08dacffec8600d09c38779d3883edf961f271c5e81e"), looks := false }, kinds := [], alts := [], laidByText := true, laidKinds := [.data, .data], laidTests := true, laidLooks := .later }
def FnExactMatNormUptoCardSaid : Prop := Claim7.holds Tryz.pinned (.plain (OpenSpec.upto fnExactMatNormSpec)) fnExactMatNormUptoCard
end Rows
end Go.Proofs.YtgoncjcnakkaoaaGreatDoor
