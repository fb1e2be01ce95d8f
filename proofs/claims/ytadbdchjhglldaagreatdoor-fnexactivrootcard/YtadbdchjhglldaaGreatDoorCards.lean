/-
  DERIVED. GIVEN WITH THE SEED: THE CARDS: each row of YtadbdchjhglldaaGreatDoorRows.lean that lists a variable, with what it lists TIED to the program's text (the seventh form; the later family's looks); each row that meets fmt, with fmt's text TOLD by the authors' own Lean function (tested against real Go, not proved from fmt's source: count such statements apart). THE CARD IS WHAT COUNTS. Prove the row's statement (the work); the ties are given (YtadbdchjhglldaaGreatDoorTie.lean); close each card by the builder's one call (the guide's Derived/Test/ToyasCard.lean, 'card_holds'). Laid BY PROGRAM, IN A SANDBOX (cutbox-door.mjs). By AI agents, Wed Nov 11 2026. No macro, syntax, notation, axiom, sorry.
-/
import Derived.Test.YtadbdchjhglldaaGreatDoorRows
import GoSem.ClaimSeven
namespace Go.Proofs.YtadbdchjhglldaaGreatDoor
namespace Rows

/-- THE TIED CARD OF 'laws.FnExactIvRoot'. -/
def fnExactIvRootCard : Claim7 := { stood := { row := fnExactIvRootRow, standIns := [], harness := (true, "902c83a03fa18226b715ba02734beb506ae1a2a377c98becb80c17ee2f058f68"), looks := false }, kinds := [], alts := [], laidByText := true, laidKinds := [.data, .data], laidTests := true, laidLooks := .later }
def FnExactIvRootCardSaid : Prop := Claim7.holds Tryz.pinned (.plain (OpenSpec.ofChange fnExactIvRootSpec)) fnExactIvRootCard

/-- THE SECOND FORM's CARD OF 'laws.FnExactIvRoot'. -/
def fnExactIvRootUptoCard : Claim7 := { stood := { row := fnExactIvRootUptoRow, standIns := [], harness := (true, "902c83a03fa18226b715ba02734beb506ae1a2a377c98becb80c17ee2f058f68"), looks := false }, kinds := [], alts := [], laidByText := true, laidKinds := [.data, .data], laidTests := true, laidLooks := .later }
def FnExactIvRootUptoCardSaid : Prop := Claim7.holds Tryz.pinned (.plain (OpenSpec.upto fnExactIvRootSpec)) fnExactIvRootUptoCard
end Rows
end Go.Proofs.YtadbdchjhglldaaGreatDoor
