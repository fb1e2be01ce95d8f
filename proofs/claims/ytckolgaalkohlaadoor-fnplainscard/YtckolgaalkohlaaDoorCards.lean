/-
  DERIVED. GIVEN WITH THE SEED: THE CARDS: each row of YtckolgaalkohlaaDoorRows.lean that lists a variable, with what it lists TIED to the program's text (the seventh form; the later family's looks); each row that meets fmt, with fmt's text TOLD by the authors' own Lean function (tested against real Go, not proved from fmt's source: count such statements apart). THE CARD IS WHAT COUNTS. Prove the row's statement (the work); the ties are given (YtckolgaalkohlaaDoorTie.lean); close each card by the builder's one call (the guide's Derived/Test/ToyasCard.lean, 'card_holds'). Laid BY PROGRAM, IN A SANDBOX (cutbox-door.mjs). By AI agents, Wed Nov 11 2026. No macro, syntax, notation, axiom, sorry.
-/
import Derived.Test.YtckolgaalkohlaaDoorRows
import GoSem.ClaimSeven
namespace Go.Proofs.YtckolgaalkohlaaDoor
namespace Rows

/-- THE TIED CARD OF 'laws.FnPlains'. -/
def fnPlainsCard : Claim7 := { stood := { row := fnPlainsRow, standIns := [], harness := (true, "77f7c1575770787de73fc80c85e68c31378d549b6a78bb282ac9fbc22f76ac89"), looks := false }, kinds := [], alts := [], laidByText := true, laidKinds := [.data], laidTests := true, laidLooks := .later }
def FnPlainsCardSaid : Prop := Claim7.holds Tryd.pinned (.plain (OpenSpec.ofChange fnPlainsSpec)) fnPlainsCard

/-- THE SECOND FORM's CARD OF 'laws.FnPlains'. -/
def fnPlainsUptoCard : Claim7 := { stood := { row := fnPlainsUptoRow, standIns := [], harness := (true, "77f7c1575770787de73fc80c85e68c31378d549b6a78bb282ac9fbc22f76ac89"), looks := false }, kinds := [], alts := [], laidByText := true, laidKinds := [.data], laidTests := true, laidLooks := .later }
def FnPlainsUptoCardSaid : Prop := Claim7.holds Tryd.pinned (.plain (OpenSpec.upto fnPlainsSpec)) fnPlainsUptoCard
end Rows
end Go.Proofs.YtckolgaalkohlaaDoor
