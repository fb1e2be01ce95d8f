/-
  DERIVED. GIVEN WITH THE SEED: THE CARDS: each row of YtibdlbijkpkapaaDoorRows.lean that lists a variable, with what it lists TIED to the program's text (the seventh form; the later family's looks); each row that meets fmt, with fmt's text TOLD by the authors' own Lean function (tested against real Go, not proved from fmt's source: count such statements apart). THE CARD IS WHAT COUNTS. Prove the row's statement (the work); the ties are given (YtibdlbijkpkapaaDoorTie.lean); close each card by the builder's one call (the guide's Derived/Test/ToyasCard.lean, 'card_holds'). Laid BY PROGRAM, IN A SANDBOX (cutbox-door.mjs). By AI agents, Wed Nov 11 2026. No macro, syntax, notation, axiom, sorry.
-/
import Derived.Test.YtibdlbijkpkapaaDoorRows
import GoSem.ClaimSeven
namespace Go.Proofs.YtibdlbijkpkapaaDoor
namespace Rows

/-- THE TIED CARD OF 'laws.FnExactFlAdd'. -/
def fnExactFlAddCard : Claim7 := { stood := { row := fnExactFlAddRow, standIns := [], harness := (true, "0119adf7aff4c22d48403575d30cd579740ae5e7f74c3bcb92a37a04d5b2bbc2"), looks := true }, kinds := [], alts := [], laidByText := true, laidKinds := [.data, .data], laidTests := true, laidLooks := .later }
def FnExactFlAddCardSaid : Prop := Claim7.holds Tryd.pinned (.plain (OpenSpec.ofChange fnExactFlAddSpec)) fnExactFlAddCard

/-- THE TIED CARD OF 'laws.FnExactFlSub'. -/
def fnExactFlSubCard : Claim7 := { stood := { row := fnExactFlSubRow, standIns := [], harness := (true, "0119adf7aff4c22d48403575d30cd579740ae5e7f74c3bcb92a37a04d5b2bbc2"), looks := true }, kinds := [], alts := [], laidByText := true, laidKinds := [.data, .data], laidTests := true, laidLooks := .later }
def FnExactFlSubCardSaid : Prop := Claim7.holds Tryd.pinned (.plain (OpenSpec.ofChange fnExactFlSubSpec)) fnExactFlSubCard

/-- THE SECOND FORM's CARD OF 'laws.FnExactFlAdd'. -/
def fnExactFlAddUptoCard : Claim7 := { stood := { row := fnExactFlAddUptoRow, standIns := [], harness := (true, "0119adf7aff4c22d48403575d30cd579740ae5e7f74c3bcb92a37a04d5b2bbc2"), looks := true }, kinds := [], alts := [], laidByText := true, laidKinds := [.data, .data], laidTests := true, laidLooks := .later }
def FnExactFlAddUptoCardSaid : Prop := Claim7.holds Tryd.pinned (.plain (OpenSpec.upto fnExactFlAddSpec)) fnExactFlAddUptoCard

/-- THE SECOND FORM's CARD OF 'laws.FnExactFlSub'. -/
def fnExactFlSubUptoCard : Claim7 := { stood := { row := fnExactFlSubUptoRow, standIns := [], harness := (true, "0119adf7aff4c22d48403575d30cd579740ae5e7f74c3bcb92a37a04d5b2bbc2"), looks := true }, kinds := [], alts := [], laidByText := true, laidKinds := [.data, .data], laidTests := true, laidLooks := .later }
def FnExactFlSubUptoCardSaid : Prop := Claim7.holds Tryd.pinned (.plain (OpenSpec.upto fnExactFlSubSpec)) fnExactFlSubUptoCard
end Rows
end Go.Proofs.YtibdlbijkpkapaaDoor
