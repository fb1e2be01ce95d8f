/-
  DERIVED. GIVEN WITH THE SEED: THE CARDS: each row of YtianadklhakehaaDoorRows.lean that lists a variable, with what it lists TIED to the program's text (the seventh form; the later family's looks); each row that meets fmt, with fmt's text TOLD by the authors' own Lean function (tested against real Go, not proved from fmt's source: count such statements apart). THE CARD IS WHAT COUNTS. Prove the row's statement (the work); the ties are given (YtianadklhakehaaDoorTie.lean); close each card by the builder's one call (the guide's Derived/Test/ToyasCard.lean, 'card_holds'). Laid BY PROGRAM, IN A SANDBOX (cutbox-door.mjs). By AI agents, Wed Nov 11 2026. No macro, syntax, notation, axiom, sorry.
-/
import Derived.Test.YtianadklhakehaaDoorRows
import GoSem.ClaimSeven
namespace Go.Proofs.YtianadklhakehaaDoor
namespace Rows

/-- THE TIED CARD OF 'laws.FnDyOrder'. -/
def fnDyOrderCard : Claim7 := { stood := { row := fnDyOrderRow, standIns := [], harness := (true, "906ed640271d628b3bd9d7d6187b661266695d6478c585652067810480f26298"), looks := false }, kinds := [], alts := [], laidByText := true, laidKinds := [.data, .data], laidTests := true, laidLooks := .later }
def FnDyOrderCardSaid : Prop := Claim7.holds Tryd.pinned (.plain (OpenSpec.ofChange fnDyOrderSpec)) fnDyOrderCard

/-- THE SECOND FORM's CARD OF 'laws.FnDyOrder'. -/
def fnDyOrderUptoCard : Claim7 := { stood := { row := fnDyOrderUptoRow, standIns := [], harness := (true, "906ed640271d628b3bd9d7d6187b661266695d6478c585652067810480f26298"), looks := false }, kinds := [], alts := [], laidByText := true, laidKinds := [.data, .data], laidTests := true, laidLooks := .later }
def FnDyOrderUptoCardSaid : Prop := Claim7.holds Tryd.pinned (.plain (OpenSpec.upto fnDyOrderSpec)) fnDyOrderUptoCard
end Rows
end Go.Proofs.YtianadklhakehaaDoor
