/-
  DERIVED. GIVEN WITH THE SEED: THE CARDS: each row of YtocmecjadhodfaaDoorRows.lean that lists a variable, with what it lists TIED to the program's text (the seventh form; the later family's looks); each row that meets fmt, with fmt's text TOLD by the authors' own Lean function (tested against real Go, not proved from fmt's source: count such statements apart). THE CARD IS WHAT COUNTS. Prove the row's statement (the work); the ties are given (YtocmecjadhodfaaDoorTie.lean); close each card by the builder's one call (the guide's Derived/Test/ToyasCard.lean, 'card_holds'). Laid BY PROGRAM, IN A SANDBOX (cutbox-door.mjs). By AI agents, Wed Nov 11 2026. No macro, syntax, notation, axiom, sorry.
-/
import Derived.Test.YtocmecjadhodfaaDoorRows
import GoSem.ClaimSeven
namespace Go.Proofs.YtocmecjadhodfaaDoor
namespace Rows

/-- THE TIED CARD OF 'laws.FnExactDyRoot'. -/
def fnExactDyRootCard : Claim7 := { stood := { row := fnExactDyRootRow, standIns := [], harness := (true, "11465335299f307141971341c5301df715676a99f5c8997aab3f92e30bb2b1eb"), looks := false }, kinds := [], alts := [], laidByText := true, laidKinds := [.data, .data], laidTests := true, laidLooks := .later }
def FnExactDyRootCardSaid : Prop := Claim7.holds Tryd.pinned (.plain (OpenSpec.ofChange fnExactDyRootSpec)) fnExactDyRootCard

/-- THE SECOND FORM's CARD OF 'laws.FnExactDyRoot'. -/
def fnExactDyRootUptoCard : Claim7 := { stood := { row := fnExactDyRootUptoRow, standIns := [], harness := (true, "11465335299f307141971341c5301df715676a99f5c8997aab3f92e30bb2b1eb"), looks := false }, kinds := [], alts := [], laidByText := true, laidKinds := [.data, .data], laidTests := true, laidLooks := .later }
def FnExactDyRootUptoCardSaid : Prop := Claim7.holds Tryd.pinned (.plain (OpenSpec.upto fnExactDyRootSpec)) fnExactDyRootUptoCard
end Rows
end Go.Proofs.YtocmecjadhodfaaDoor
