/-
  DERIVED. GIVEN WITH THE SEED: THE CARDS: each row of YtpdgajfkhjdgaaaDoorRows.lean that lists a variable, with what it lists TIED to the program's text (the seventh form; the later family's looks); each row that meets fmt, with fmt's text TOLD by the authors' own Lean function (tested against real Go, not proved from fmt's source: count such statements apart). THE CARD IS WHAT COUNTS. Prove the row's statement (the work); the ties are given (YtpdgajfkhjdgaaaDoorTie.lean); close each card by the builder's one call (the guide's Derived/Test/ToyasCard.lean, 'card_holds'). Laid BY PROGRAM, IN A SANDBOX (cutbox-door.mjs). By AI agents, Wed Nov 11 2026. No macro, syntax, notation, axiom, sorry.
-/
import Derived.Test.YtpdgajfkhjdgaaaDoorRows
import GoSem.ClaimSeven
namespace Go.Proofs.YtpdgajfkhjdgaaaDoor
namespace Rows

/-- THE TIED CARD OF 'laws.FnExactDyRound'. -/
def fnExactDyRoundCard : Claim7 := { stood := { row := fnExactDyRoundRow, standIns := [], harness := (true, "a9883aaa3c6a112ed41658b4682d195b4a0e3d768d776fb792eaf2ea82b23ee8"), looks := true }, kinds := [], alts := [], laidByText := true, laidKinds := [.data, .data], laidTests := true, laidLooks := .later }
def FnExactDyRoundCardSaid : Prop := Claim7.holds Tryd.pinned (.plain (OpenSpec.ofChange fnExactDyRoundSpec)) fnExactDyRoundCard

/-- THE TIED CARD OF 'laws.FnExactFlRound'. -/
def fnExactFlRoundCard : Claim7 := { stood := { row := fnExactFlRoundRow, standIns := [], harness := (true, "a9883aaa3c6a112ed41658b4682d195b4a0e3d768d776fb792eaf2ea82b23ee8"), looks := true }, kinds := [], alts := [], laidByText := true, laidKinds := [.data, .data], laidTests := true, laidLooks := .later }
def FnExactFlRoundCardSaid : Prop := Claim7.holds Tryd.pinned (.plain (OpenSpec.ofChange fnExactFlRoundSpec)) fnExactFlRoundCard

/-- THE TIED CARD OF 'laws.FnExactFlOfInt'. -/
def fnExactFlOfIntCard : Claim7 := { stood := { row := fnExactFlOfIntRow, standIns := [], harness := (true, "a9883aaa3c6a112ed41658b4682d195b4a0e3d768d776fb792eaf2ea82b23ee8"), looks := true }, kinds := [], alts := [], laidByText := true, laidKinds := [.data, .data], laidTests := true, laidLooks := .later }
def FnExactFlOfIntCardSaid : Prop := Claim7.holds Tryd.pinned (.plain (OpenSpec.ofChange fnExactFlOfIntSpec)) fnExactFlOfIntCard

/-- THE TIED CARD OF 'laws.FnExactFlToInt'. -/
def fnExactFlToIntCard : Claim7 := { stood := { row := fnExactFlToIntRow, standIns := [], harness := (true, "a9883aaa3c6a112ed41658b4682d195b4a0e3d768d776fb792eaf2ea82b23ee8"), looks := true }, kinds := [], alts := [], laidByText := true, laidKinds := [.data, .data], laidTests := true, laidLooks := .later }
def FnExactFlToIntCardSaid : Prop := Claim7.holds Tryd.pinned (.plain (OpenSpec.ofChange fnExactFlToIntSpec)) fnExactFlToIntCard

/-- THE SECOND FORM's CARD OF 'laws.FnExactDyRound'. -/
def fnExactDyRoundUptoCard : Claim7 := { stood := { row := fnExactDyRoundUptoRow, standIns := [], harness := (true, "a9883aaa3c6a112ed41658b4682d195b4a0e3d768d776fb792eaf2ea82b23ee8"), looks := true }, kinds := [], alts := [], laidByText := true, laidKinds := [.data, .data], laidTests := true, laidLooks := .later }
def FnExactDyRoundUptoCardSaid : Prop := Claim7.holds Tryd.pinned (.plain (OpenSpec.upto fnExactDyRoundSpec)) fnExactDyRoundUptoCard

/-- THE SECOND FORM's CARD OF 'laws.FnExactFlRound'. -/
def fnExactFlRoundUptoCard : Claim7 := { stood := { row := fnExactFlRoundUptoRow, standIns := [], harness := (true, "a9883aaa3c6a112ed41658b4682d195b4a0e3d768d776fb792eaf2ea82b23ee8"), looks := true }, kinds := [], alts := [], laidByText := true, laidKinds := [.data, .data], laidTests := true, laidLooks := .later }
def FnExactFlRoundUptoCardSaid : Prop := Claim7.holds Tryd.pinned (.plain (OpenSpec.upto fnExactFlRoundSpec)) fnExactFlRoundUptoCard

/-- THE SECOND FORM's CARD OF 'laws.FnExactFlOfInt'. -/
def fnExactFlOfIntUptoCard : Claim7 := { stood := { row := fnExactFlOfIntUptoRow, standIns := [], harness := (true, "a9883aaa3c6a112ed41658b4682d195b4a0e3d768d776fb792eaf2ea82b23ee8"), looks := true }, kinds := [], alts := [], laidByText := true, laidKinds := [.data, .data], laidTests := true, laidLooks := .later }
def FnExactFlOfIntUptoCardSaid : Prop := Claim7.holds Tryd.pinned (.plain (OpenSpec.upto fnExactFlOfIntSpec)) fnExactFlOfIntUptoCard

/-- THE SECOND FORM's CARD OF 'laws.FnExactFlToInt'. -/
def fnExactFlToIntUptoCard : Claim7 := { stood := { row := fnExactFlToIntUptoRow, standIns := [], harness := (true, "a9883aaa3c6a112ed41658b4682d195b4a0e3d768d776fb792eaf2ea82b23ee8"), looks := true }, kinds := [], alts := [], laidByText := true, laidKinds := [.data, .data], laidTests := true, laidLooks := .later }
def FnExactFlToIntUptoCardSaid : Prop := Claim7.holds Tryd.pinned (.plain (OpenSpec.upto fnExactFlToIntSpec)) fnExactFlToIntUptoCard
end Rows
end Go.Proofs.YtpdgajfkhjdgaaaDoor
