/-
  DERIVED. GIVEN WITH THE SEED: THE CARDS: each row of YtcijajdhiknaoaaDoorRows.lean that lists a variable, with what it lists TIED to the program's text (the seventh form; the later family's looks); each row that meets fmt, with fmt's text TOLD by the authors' own Lean function (tested against real Go, not proved from fmt's source: count such statements apart). THE CARD IS WHAT COUNTS. Prove the row's statement (the work); the ties are given (YtcijajdhiknaoaaDoorTie.lean); close each card by the builder's one call (the guide's Derived/Test/ToyasCard.lean, 'card_holds'). Laid BY PROGRAM, IN A SANDBOX (cutbox-door.mjs). By AI agents, Wed Nov 11 2026. No macro, syntax, notation, axiom, sorry.
-/
import Derived.Test.YtcijajdhiknaoaaDoorRows
import GoSem.ClaimSeven
namespace Go.Proofs.YtcijajdhiknaoaaDoor
namespace Rows

/-- THE TIED CARD OF 'laws.FnFlOrder'. -/
def fnFlOrderCard : Claim7 := { stood := { row := fnFlOrderRow, standIns := [], harness := (true, "6bc81566f870d8da46cb7420097517e7c00cac76b854e90f4d01d285866d51b2"), looks := true }, kinds := [], alts := [], laidByText := true, laidKinds := [.data, .data], laidTests := true, laidLooks := .later }
def FnFlOrderCardSaid : Prop := Claim7.holds Tryd.pinned (.plain (OpenSpec.ofChange fnFlOrderSpec)) fnFlOrderCard

/-- THE SECOND FORM's CARD OF 'laws.FnFlOrder'. -/
def fnFlOrderUptoCard : Claim7 := { stood := { row := fnFlOrderUptoRow, standIns := [], harness := (true, "6bc81566f870d8da46cb7420097517e7c00cac76b854e90f4d01d285866d51b2"), looks := true }, kinds := [], alts := [], laidByText := true, laidKinds := [.data, .data], laidTests := true, laidLooks := .later }
def FnFlOrderUptoCardSaid : Prop := Claim7.holds Tryd.pinned (.plain (OpenSpec.upto fnFlOrderSpec)) fnFlOrderUptoCard
end Rows
end Go.Proofs.YtcijajdhiknaoaaDoor
