/-
  DERIVED. GIVEN WITH THE SEED: THE CARDS: each row of YtflpkblmcnkghaaDoorRows.lean that lists a variable, with what it lists TIED to the program's text (the seventh form; the later family's looks); each row that meets fmt, with fmt's text TOLD by the authors' own Lean function (tested against real Go, not proved from fmt's source: count such statements apart). THE CARD IS WHAT COUNTS. Prove the row's statement (the work); the ties are given (YtflpkblmcnkghaaDoorTie.lean); close each card by the builder's one call (the guide's Derived/Test/ToyasCard.lean, 'card_holds'). Laid BY PROGRAM, IN A SANDBOX (cutbox-door.mjs). By AI agents, Wed Nov 11 2026. No macro, syntax, notation, axiom, sorry.
-/
import Derived.Test.YtflpkblmcnkghaaDoorRows
import GoSem.ClaimSeven
namespace Go.Proofs.YtflpkblmcnkghaaDoor
namespace Rows

/-- THE TIED CARD OF 'laws.FnExactFlDiv'. -/
def fnExactFlDivCard : Claim7 := { stood := { row := fnExactFlDivRow, standIns := [], harness := (true, "89611fcc8f4e295d717d495b05292d64656d46aa5e83c6fa2285521df3c9a804"), looks := true }, kinds := [], alts := [], laidByText := true, laidKinds := [.data, .data], laidTests := true, laidLooks := .later }
def FnExactFlDivCardSaid : Prop := Claim7.holds Tryd.pinned (.plain (OpenSpec.ofChange fnExactFlDivSpec)) fnExactFlDivCard

/-- THE TIED CARD OF 'laws.FnExactFlSqrt'. -/
def fnExactFlSqrtCard : Claim7 := { stood := { row := fnExactFlSqrtRow, standIns := [], harness := (true, "89611fcc8f4e295d717d495b05292d64656d46aa5e83c6fa2285521df3c9a804"), looks := true }, kinds := [], alts := [], laidByText := true, laidKinds := [.data, .data], laidTests := true, laidLooks := .later }
def FnExactFlSqrtCardSaid : Prop := Claim7.holds Tryd.pinned (.plain (OpenSpec.ofChange fnExactFlSqrtSpec)) fnExactFlSqrtCard

/-- THE SECOND FORM's CARD OF 'laws.FnExactFlDiv'. -/
def fnExactFlDivUptoCard : Claim7 := { stood := { row := fnExactFlDivUptoRow, standIns := [], harness := (true, "89611fcc8f4e295d717d495b05292d64656d46aa5e83c6fa2285521df3c9a804"), looks := true }, kinds := [], alts := [], laidByText := true, laidKinds := [.data, .data], laidTests := true, laidLooks := .later }
def FnExactFlDivUptoCardSaid : Prop := Claim7.holds Tryd.pinned (.plain (OpenSpec.upto fnExactFlDivSpec)) fnExactFlDivUptoCard

/-- THE SECOND FORM's CARD OF 'laws.FnExactFlSqrt'. -/
def fnExactFlSqrtUptoCard : Claim7 := { stood := { row := fnExactFlSqrtUptoRow, standIns := [], harness := (true, "89611fcc8f4e295d717d495b05292d64656d46aa5e83c6fa2285521df3c9a804"), looks := true }, kinds := [], alts := [], laidByText := true, laidKinds := [.data, .data], laidTests := true, laidLooks := .later }
def FnExactFlSqrtUptoCardSaid : Prop := Claim7.holds Tryd.pinned (.plain (OpenSpec.upto fnExactFlSqrtSpec)) fnExactFlSqrtUptoCard
end Rows
end Go.Proofs.YtflpkblmcnkghaaDoor
