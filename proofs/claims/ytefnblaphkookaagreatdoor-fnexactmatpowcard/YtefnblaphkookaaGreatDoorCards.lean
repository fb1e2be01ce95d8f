/-
  DERIVED. GIVEN WITH THE SEED: THE CARDS: each row of YtefnblaphkookaaGreatDoorRows.lean that lists a variable, with what it lists TIED to the program's text (the seventh form; the later family's looks); each row that meets fmt, with fmt's text TOLD by the authors' own Lean function (tested against real Go, not proved from fmt's source: count such statements apart). THE CARD IS WHAT COUNTS. Prove the row's statement (the work); the ties are given (YtefnblaphkookaaGreatDoorTie.lean); close each card by the builder's one call (the guide's Derived/Test/ToyasCard.lean, 'card_holds'). Laid BY PROGRAM, IN A SANDBOX (cutbox-door.mjs). By AI agents, Wed Nov 11 2026. No macro, syntax, notation, axiom, sorry.
-/
import Derived.Test.YtefnblaphkookaaGreatDoorRows
import GoSem.ClaimSeven
namespace Go.Proofs.YtefnblaphkookaaGreatDoor
namespace Rows

/-- THE TIED CARD OF 'laws.FnExactMatPow'. -/
def fnExactMatPowCard : Claim7 := { stood := { row := fnExactMatPowRow, standIns := [], harness := (true, "21647b3b228f2a230237520f3e41f23b22a201d5ee565754d8a823f79b3ee1d7"), looks := false }, kinds := [], alts := [], laidByText := true, laidKinds := [.data, .data], laidTests := true, laidLooks := .later }
def FnExactMatPowCardSaid : Prop := Claim7.holds Tryz.pinned (.plain (OpenSpec.ofChange fnExactMatPowSpec)) fnExactMatPowCard

/-- THE SECOND FORM's CARD OF 'laws.FnExactMatPow'. -/
def fnExactMatPowUptoCard : Claim7 := { stood := { row := fnExactMatPowUptoRow, standIns := [], harness := (true, "21647b3b228f2a230237520f3e41f23b22a201d5ee565754d8a823f79b3ee1d7"), looks := false }, kinds := [], alts := [], laidByText := true, laidKinds := [.data, .data], laidTests := true, laidLooks := .later }
def FnExactMatPowUptoCardSaid : Prop := Claim7.holds Tryz.pinned (.plain (OpenSpec.upto fnExactMatPowSpec)) fnExactMatPowUptoCard
end Rows
end Go.Proofs.YtefnblaphkookaaGreatDoor
