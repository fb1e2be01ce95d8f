/-
  DERIVED. GIVEN WITH THE SEED: THE CARDS: each row of YthahoabkehcgbaaDoorRows.lean that lists a variable, with what it lists TIED to the program's text (the seventh form; the later family's looks); each row that meets fmt, with fmt's text TOLD by the authors' own Lean function (tested against real Go, not proved from fmt's source: count such statements apart). THE CARD IS WHAT COUNTS. Prove the row's statement (the work); the ties are given (YthahoabkehcgbaaDoorTie.lean); close each card by the builder's one call (the guide's Derived/Test/ToyasCard.lean, 'card_holds'). Laid BY PROGRAM, IN A SANDBOX (cutbox-door.mjs). By AI agents, Wed Nov 11 2026. No macro, syntax, notation, axiom, sorry.
-/
import Derived.Test.YthahoabkehcgbaaDoorRows
import GoSem.ClaimSeven
namespace Go.Proofs.YthahoabkehcgbaaDoor
namespace Rows

/-- THE TIED CARD OF 'laws.FnExactIvMatOf'. -/
def fnExactIvMatOfCard : Claim7 := { stood := { row := fnExactIvMatOfRow, standIns := [], harness := (true, "67e0ec326e8f72e1b7d8e07419a7c5ee1a39fe7a201b1172c032f39687e10b26"), looks := false }, kinds := [], alts := [], laidByText := true, laidKinds := [.data, .data], laidTests := true, laidLooks := .later }
def FnExactIvMatOfCardSaid : Prop := Claim7.holds Tryd.pinned (.plain (OpenSpec.ofChange fnExactIvMatOfSpec)) fnExactIvMatOfCard

/-- THE SECOND FORM's CARD OF 'laws.FnExactIvMatOf'. -/
def fnExactIvMatOfUptoCard : Claim7 := { stood := { row := fnExactIvMatOfUptoRow, standIns := [], harness := (true, "67e0ec326e8f72e1b7d8e07419a7c5ee1a39fe7a201b1172c032f39687e10b26"), looks := false }, kinds := [], alts := [], laidByText := true, laidKinds := [.data, .data], laidTests := true, laidLooks := .later }
def FnExactIvMatOfUptoCardSaid : Prop := Claim7.holds Tryd.pinned (.plain (OpenSpec.upto fnExactIvMatOfSpec)) fnExactIvMatOfUptoCard
end Rows
end Go.Proofs.YthahoabkehcgbaaDoor
