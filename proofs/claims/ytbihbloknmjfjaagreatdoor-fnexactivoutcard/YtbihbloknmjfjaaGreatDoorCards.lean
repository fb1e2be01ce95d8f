/-
  DERIVED. GIVEN WITH THE SEED: THE CARDS: each row of YtbihbloknmjfjaaGreatDoorRows.lean that lists a variable, with what it lists TIED to the program's text (the seventh form; the later family's looks); each row that meets fmt, with fmt's text TOLD by the authors' own Lean function (tested against real Go, not proved from fmt's source: count such statements apart). THE CARD IS WHAT COUNTS. Prove the row's statement (the work); the ties are given (YtbihbloknmjfjaaGreatDoorTie.lean); close each card by the builder's one call (the guide's Derived/Test/ToyasCard.lean, 'card_holds'). Laid BY PROGRAM, IN A SANDBOX (cutbox-door.mjs). By AI agents, Wed Nov 11 2026. No macro, syntax, notation, axiom, sorry.
-/
import Derived.Test.YtbihbloknmjfjaaGreatDoorRows
import GoSem.ClaimSeven
namespace Go.Proofs.YtbihbloknmjfjaaGreatDoor
namespace Rows

/-- THE TIED CARD OF 'laws.FnExactIvOut'. -/
def fnExactIvOutCard : Claim7 := { stood := { row := fnExactIvOutRow, standIns := [], harness := (true, "0b12e33deadbe48b903d169bbc21f1372f701c22b23489ee2ed45ae1955b3326"), looks := false }, kinds := [], alts := [], laidByText := true, laidKinds := [.data, .data], laidTests := true, laidLooks := .later }
def FnExactIvOutCardSaid : Prop := Claim7.holds Tryz.pinned (.plain (OpenSpec.ofChange fnExactIvOutSpec)) fnExactIvOutCard

/-- THE SECOND FORM's CARD OF 'laws.FnExactIvOut'. -/
def fnExactIvOutUptoCard : Claim7 := { stood := { row := fnExactIvOutUptoRow, standIns := [], harness := (true, "0b12e33deadbe48b903d169bbc21f1372f701c22b23489ee2ed45ae1955b3326"), looks := false }, kinds := [], alts := [], laidByText := true, laidKinds := [.data, .data], laidTests := true, laidLooks := .later }
def FnExactIvOutUptoCardSaid : Prop := Claim7.holds Tryz.pinned (.plain (OpenSpec.upto fnExactIvOutSpec)) fnExactIvOutUptoCard
end Rows
end Go.Proofs.YtbihbloknmjfjaaGreatDoor
