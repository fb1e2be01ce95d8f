/-
  DERIVED. GIVEN WITH THE SEED: THE CARDS: each row of YtlenocminckbkaaDoorRows.lean that lists a variable, with what it lists TIED to the program's text (the seventh form; the later family's looks); each row that meets fmt, with fmt's text TOLD by the authors' own Lean function (tested against real Go, not proved from fmt's source: count such statements apart). THE CARD IS WHAT COUNTS. Prove the row's statement (the work); the ties are given (YtlenocminckbkaaDoorTie.lean); close each card by the builder's one call (the guide's Derived/Test/ToyasCard.lean, 'card_holds'). Laid BY PROGRAM, IN A SANDBOX (cutbox-door.mjs). By AI agents, Wed Nov 11 2026. No macro, syntax, notation, axiom, sorry.
-/
import Derived.Test.YtlenocminckbkaaDoorRows
import GoSem.ClaimSeven
namespace Go.Proofs.YtlenocminckbkaaDoor
namespace Rows

/-- THE TIED CARD OF 'laws.FnExactMatRound'. -/
def fnExactMatRoundCard : Claim7 := { stood := { row := fnExactMatRoundRow, standIns := [], harness := (true, "e8532c3aab7ae27cba132469d989b123ea528e372f3a75244c34e332dfb7aeb5"), looks := false }, kinds := [], alts := [], laidByText := true, laidKinds := [.data, .data], laidTests := true, laidLooks := .later }
def FnExactMatRoundCardSaid : Prop := Claim7.holds Tryd.pinned (.plain (OpenSpec.ofChange fnExactMatRoundSpec)) fnExactMatRoundCard

/-- THE SECOND FORM's CARD OF 'laws.FnExactMatRound'. -/
def fnExactMatRoundUptoCard : Claim7 := { stood := { row := fnExactMatRoundUptoRow, standIns := [], harness := (true, "e8532c3aab7ae27cba132469d989b123ea528e372f3a75244c34e332dfb7aeb5"), looks := false }, kinds := [], alts := [], laidByText := true, laidKinds := [.data, .data], laidTests := true, laidLooks := .later }
def FnExactMatRoundUptoCardSaid : Prop := Claim7.holds Tryd.pinned (.plain (OpenSpec.upto fnExactMatRoundSpec)) fnExactMatRoundUptoCard
end Rows
end Go.Proofs.YtlenocminckbkaaDoor
