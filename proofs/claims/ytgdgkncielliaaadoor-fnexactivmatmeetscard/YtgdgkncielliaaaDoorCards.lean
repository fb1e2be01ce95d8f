/-
  DERIVED. GIVEN WITH THE SEED: THE CARDS: each row of YtgdgkncielliaaaDoorRows.lean that lists a variable, with what it lists TIED to the program's text (the seventh form; the later family's looks); each row that meets fmt, with fmt's text TOLD by the authors' own Lean function (tested against real Go, not proved from fmt's source: count such statements apart). THE CARD IS WHAT COUNTS. Prove the row's statement (the work); the ties are given (YtgdgkncielliaaaDoorTie.lean); close each card by the builder's one call (the guide's Derived/Test/ToyasCard.lean, 'card_holds'). Laid BY PROGRAM, IN A SANDBOX (cutbox-door.mjs). By AI agents, Wed Nov 11 2026. No macro, syntax, notation, axiom, sorry.
-/
import Derived.Test.YtgdgkncielliaaaDoorRows
import GoSem.ClaimSeven
namespace Go.Proofs.YtgdgkncielliaaaDoor
namespace Rows

/-- THE TIED CARD OF 'laws.FnExactIvMatMeets'. -/
def fnExactIvMatMeetsCard : Claim7 := { stood := { row := fnExactIvMatMeetsRow, standIns := [], harness := (true, "6580c025210be4f5bc5bddf1036bcfb65bbd4160bb250973d43d38bcdeb36847"), looks := false }, kinds := [], alts := [], laidByText := true, laidKinds := [.data, .data], laidTests := true, laidLooks := .later }
def FnExactIvMatMeetsCardSaid : Prop := Claim7.holds Tryd.pinned (.plain (OpenSpec.ofChange fnExactIvMatMeetsSpec)) fnExactIvMatMeetsCard

/-- THE SECOND FORM's CARD OF 'laws.FnExactIvMatMeets'. -/
def fnExactIvMatMeetsUptoCard : Claim7 := { stood := { row := fnExactIvMatMeetsUptoRow, standIns := [], harness := (true, "6580c025210be4f5bc5bddf1036bcfb65bbd4160bb250973d43d38bcdeb36847"), looks := false }, kinds := [], alts := [], laidByText := true, laidKinds := [.data, .data], laidTests := true, laidLooks := .later }
def FnExactIvMatMeetsUptoCardSaid : Prop := Claim7.holds Tryd.pinned (.plain (OpenSpec.upto fnExactIvMatMeetsSpec)) fnExactIvMatMeetsUptoCard
end Rows
end Go.Proofs.YtgdgkncielliaaaDoor
