/-
  DERIVED. GIVEN WITH THE SEED: THE CARDS: each row of YthglchilgjcloaaDoorRows.lean that lists a variable, with what it lists TIED to the program's text (the seventh form; the later family's looks); each row that meets fmt, with fmt's text TOLD by the authors' own Lean function (tested against real Go, not proved from fmt's source: count such statements apart). THE CARD IS WHAT COUNTS. Prove the row's statement (the work); the ties are given (YthglchilgjcloaaDoorTie.lean); close each card by the builder's one call (the guide's Derived/Test/ToyasCard.lean, 'card_holds'). Laid BY PROGRAM, IN A SANDBOX (cutbox-door.mjs). By AI agents, Wed Nov 11 2026. No macro, syntax, notation, axiom, sorry.
-/
import Derived.Test.YthglchilgjcloaaDoorRows
import GoSem.ClaimSeven
namespace Go.Proofs.YthglchilgjcloaaDoor
namespace Rows

/-- THE TIED CARD OF 'laws.FnExactWholeRead'. -/
def fnExactWholeReadCard : Claim7 := { stood := { row := fnExactWholeReadRow, standIns := [], harness := (true, "65c8e4033f7d2692c15c58d458969813d79021245df67667065e780e0e6d8209"), looks := false }, kinds := [], alts := [], laidByText := true, laidKinds := [.data], laidTests := true, laidLooks := .later }
def FnExactWholeReadCardSaid : Prop := Claim7.holds Tryd.pinned (.plain (OpenSpec.ofChange fnExactWholeReadSpec)) fnExactWholeReadCard

/-- THE TIED CARD OF 'laws.FnWholeTexts'. -/
def fnWholeTextsCard : Claim7 := { stood := { row := fnWholeTextsRow, standIns := [], harness := (true, "65c8e4033f7d2692c15c58d458969813d79021245df67667065e780e0e6d8209"), looks := false }, kinds := [], alts := [], laidByText := true, laidKinds := [.data], laidTests := true, laidLooks := .later }
def FnWholeTextsCardSaid : Prop := Claim7.holds Tryd.pinned (.plain (OpenSpec.ofChange fnWholeTextsSpec)) fnWholeTextsCard

/-- THE SECOND FORM's CARD OF 'laws.FnExactWholeRead'. -/
def fnExactWholeReadUptoCard : Claim7 := { stood := { row := fnExactWholeReadUptoRow, standIns := [], harness := (true, "65c8e4033f7d2692c15c58d458969813d79021245df67667065e780e0e6d8209"), looks := false }, kinds := [], alts := [], laidByText := true, laidKinds := [.data], laidTests := true, laidLooks := .later }
def FnExactWholeReadUptoCardSaid : Prop := Claim7.holds Tryd.pinned (.plain (OpenSpec.upto fnExactWholeReadSpec)) fnExactWholeReadUptoCard

/-- THE SECOND FORM's CARD OF 'laws.FnWholeTexts'. -/
def fnWholeTextsUptoCard : Claim7 := { stood := { row := fnWholeTextsUptoRow, standIns := [], harness := (true, "65c8e4033f7d2692c15c58d458969813d79021245df67667065e780e0e6d8209"), looks := false }, kinds := [], alts := [], laidByText := true, laidKinds := [.data], laidTests := true, laidLooks := .later }
def FnWholeTextsUptoCardSaid : Prop := Claim7.holds Tryd.pinned (.plain (OpenSpec.upto fnWholeTextsSpec)) fnWholeTextsUptoCard
end Rows
end Go.Proofs.YthglchilgjcloaaDoor
