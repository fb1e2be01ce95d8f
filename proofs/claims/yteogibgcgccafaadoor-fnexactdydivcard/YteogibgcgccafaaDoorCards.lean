/-
  DERIVED. GIVEN WITH THE SEED: THE CARDS: each row of YteogibgcgccafaaDoorRows.lean that lists a variable, with what it lists TIED to the program's text (the seventh form; the later family's looks); each row that meets fmt, with fmt's text TOLD by the authors' own Lean function (tested against real Go, not proved from fmt's source: count such statements apart). THE CARD IS WHAT COUNTS. Prove the row's statement (the work); the ties are given (YteogibgcgccafaaDoorTie.lean); close each card by the builder's one call (the guide's Derived/Test/ToyasCard.lean, 'card_holds'). Laid BY PROGRAM, IN A SANDBOX (cutbox-door.mjs). By AI agents, Wed Nov 11 2026. No macro, syntax, notation, axiom, sorry.
-/
import Derived.Test.YteogibgcgccafaaDoorRows
import GoSem.ClaimSeven
namespace Go.Proofs.YteogibgcgccafaaDoor
namespace Rows

/-- THE TIED CARD OF 'laws.FnExactDyDiv'. -/
def fnExactDyDivCard : Claim7 := { stood := { row := fnExactDyDivRow, standIns := [], harness := (true, "3ecdf0c0020785e7bdbd9f28ed11d42ce6a5838906b396c7e63507b319900ab0"), looks := false }, kinds := [], alts := [], laidByText := true, laidKinds := [.data, .data], laidTests := true, laidLooks := .later }
def FnExactDyDivCardSaid : Prop := Claim7.holds Tryd.pinned (.plain (OpenSpec.ofChange fnExactDyDivSpec)) fnExactDyDivCard

/-- THE SECOND FORM's CARD OF 'laws.FnExactDyDiv'. -/
def fnExactDyDivUptoCard : Claim7 := { stood := { row := fnExactDyDivUptoRow, standIns := [], harness := (true, "3ecdf0c0020785e7bdbd9f28ed11d42ce6a5838906b396c7e63507b319900ab0"), looks := false }, kinds := [], alts := [], laidByText := true, laidKinds := [.data, .data], laidTests := true, laidLooks := .later }
def FnExactDyDivUptoCardSaid : Prop := Claim7.holds Tryd.pinned (.plain (OpenSpec.upto fnExactDyDivSpec)) fnExactDyDivUptoCard
end Rows
end Go.Proofs.YteogibgcgccafaaDoor
