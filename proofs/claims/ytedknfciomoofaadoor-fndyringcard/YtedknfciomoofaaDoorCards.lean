/-
  DERIVED. GIVEN WITH THE SEED: THE CARDS: each row of YtedknfciomoofaaDoorRows.lean that lists a variable, with what it lists TIED to the program's text (the seventh form; the later family's looks); each row that meets fmt, with fmt's text TOLD by the authors' own Lean function (tested against real Go, not proved from fmt's source: count such statements apart). THE CARD IS WHAT COUNTS. Prove the row's statement (the work); the ties are given (YtedknfciomoofaaDoorTie.lean); close each card by the builder's one call (the guide's Derived/Test/ToyasCard.lean, 'card_holds'). Laid BY PROGRAM, IN A SANDBOX (cutbox-door.mjs). By AI agents, Wed Nov 11 2026. No macro, syntax, notation, axiom, sorry.
-/
import Derived.Test.YtedknfciomoofaaDoorRows
import GoSem.ClaimSeven
namespace Go.Proofs.YtedknfciomoofaaDoor
namespace Rows

/-- THE TIED CARD OF 'laws.FnDyRing'. -/
def fnDyRingCard : Claim7 := { stood := { row := fnDyRingRow, standIns := [], harness := (true, "094adbf93b1d73ce5783373d850489e5b3203c253edabf30cf00bff062d9b4e6"), looks := false }, kinds := [], alts := [], laidByText := true, laidKinds := [.data, .data], laidTests := true, laidLooks := .later }
def FnDyRingCardSaid : Prop := Claim7.holds Tryd.pinned (.plain (OpenSpec.ofChange fnDyRingSpec)) fnDyRingCard

/-- THE SECOND FORM's CARD OF 'laws.FnDyRing'. -/
def fnDyRingUptoCard : Claim7 := { stood := { row := fnDyRingUptoRow, standIns := [], harness := (true, "094adbf93b1d73ce5783373d850489e5b3203c253edabf30cf00bff062d9b4e6"), looks := false }, kinds := [], alts := [], laidByText := true, laidKinds := [.data, .data], laidTests := true, laidLooks := .later }
def FnDyRingUptoCardSaid : Prop := Claim7.holds Tryd.pinned (.plain (OpenSpec.upto fnDyRingSpec)) fnDyRingUptoCard
end Rows
end Go.Proofs.YtedknfciomoofaaDoor
