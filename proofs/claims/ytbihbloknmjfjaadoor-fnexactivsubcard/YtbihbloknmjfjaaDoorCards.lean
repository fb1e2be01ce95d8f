/-
  DERIVED. GIVEN WITH THE SEED: THE CARDS: each row of YtbihbloknmjfjaaDoorRows.lean that lists a variable, with what it lists TIED to the program's text (the seventh form; the later family's looks); each row that meets fmt, with fmt's text TOLD by the authors' own Lean function (tested against real Go, not proved from fmt's source: count such statements apart). THE CARD IS WHAT COUNTS. Prove the row's statement (the work); the ties are given (YtbihbloknmjfjaaDoorTie.lean); close each card by the builder's one call (the guide's Derived/Test/ToyasCard.lean, 'card_holds'). Laid BY PROGRAM, IN A SANDBOX (cutbox-door.mjs). By AI agents, Wed Nov 11 2026. No macro, syntax, notation, axiom, sorry.
-/
import Derived.Test.YtbihbloknmjfjaaDoorRows
import GoSem.ClaimSeven
namespace Go.Proofs.YtbihbloknmjfjaaDoor
namespace Rows

/-- THE TIED CARD OF 'laws.FnExactIvOf'. -/
def fnExactIvOfCard : Claim7 := { stood := { row := fnExactIvOfRow, standIns := [], harness := (true, "c56b20966a7651d4cf2889b44c63e9cc5c7ca518844f262d346c08ed726301d9"), looks := false }, kinds := [], alts := [], laidByText := true, laidKinds := [.data, .data], laidTests := true, laidLooks := .later }
def FnExactIvOfCardSaid : Prop := Claim7.holds Tryd.pinned (.plain (OpenSpec.ofChange fnExactIvOfSpec)) fnExactIvOfCard

/-- THE TIED CARD OF 'laws.FnExactIvAdd'. -/
def fnExactIvAddCard : Claim7 := { stood := { row := fnExactIvAddRow, standIns := [], harness := (true, "c56b20966a7651d4cf2889b44c63e9cc5c7ca518844f262d346c08ed726301d9"), looks := false }, kinds := [], alts := [], laidByText := true, laidKinds := [.data, .data], laidTests := true, laidLooks := .later }
def FnExactIvAddCardSaid : Prop := Claim7.holds Tryd.pinned (.plain (OpenSpec.ofChange fnExactIvAddSpec)) fnExactIvAddCard

/-- THE TIED CARD OF 'laws.FnExactIvSub'. -/
def fnExactIvSubCard : Claim7 := { stood := { row := fnExactIvSubRow, standIns := [], harness := (true, "c56b20966a7651d4cf2889b44c63e9cc5c7ca518844f262d346c08ed726301d9"), looks := false }, kinds := [], alts := [], laidByText := true, laidKinds := [.data, .data], laidTests := true, laidLooks := .later }
def FnExactIvSubCardSaid : Prop := Claim7.holds Tryd.pinned (.plain (OpenSpec.ofChange fnExactIvSubSpec)) fnExactIvSubCard

/-- THE TIED CARD OF 'laws.FnExactIvWide'. -/
def fnExactIvWideCard : Claim7 := { stood := { row := fnExactIvWideRow, standIns := [], harness := (true, "c56b20966a7651d4cf2889b44c63e9cc5c7ca518844f262d346c08ed726301d9"), looks := false }, kinds := [], alts := [], laidByText := true, laidKinds := [.data, .data], laidTests := true, laidLooks := .later }
def FnExactIvWideCardSaid : Prop := Claim7.holds Tryd.pinned (.plain (OpenSpec.ofChange fnExactIvWideSpec)) fnExactIvWideCard

/-- THE SECOND FORM's CARD OF 'laws.FnExactIvOf'. -/
def fnExactIvOfUptoCard : Claim7 := { stood := { row := fnExactIvOfUptoRow, standIns := [], harness := (true, "c56b20966a7651d4cf2889b44c63e9cc5c7ca518844f262d346c08ed726301d9"), looks := false }, kinds := [], alts := [], laidByText := true, laidKinds := [.data, .data], laidTests := true, laidLooks := .later }
def FnExactIvOfUptoCardSaid : Prop := Claim7.holds Tryd.pinned (.plain (OpenSpec.upto fnExactIvOfSpec)) fnExactIvOfUptoCard

/-- THE SECOND FORM's CARD OF 'laws.FnExactIvAdd'. -/
def fnExactIvAddUptoCard : Claim7 := { stood := { row := fnExactIvAddUptoRow, standIns := [], harness := (true, "c56b20966a7651d4cf2889b44c63e9cc5c7ca518844f262d346c08ed726301d9"), looks := false }, kinds := [], alts := [], laidByText := true, laidKinds := [.data, .data], laidTests := true, laidLooks := .later }
def FnExactIvAddUptoCardSaid : Prop := Claim7.holds Tryd.pinned (.plain (OpenSpec.upto fnExactIvAddSpec)) fnExactIvAddUptoCard

/-- THE SECOND FORM's CARD OF 'laws.FnExactIvSub'. -/
def fnExactIvSubUptoCard : Claim7 := { stood := { row := fnExactIvSubUptoRow, standIns := [], harness := (true, "c56b20966a7651d4cf2889b44c63e9cc5c7ca518844f262d346c08ed726301d9"), looks := false }, kinds := [], alts := [], laidByText := true, laidKinds := [.data, .data], laidTests := true, laidLooks := .later }
def FnExactIvSubUptoCardSaid : Prop := Claim7.holds Tryd.pinned (.plain (OpenSpec.upto fnExactIvSubSpec)) fnExactIvSubUptoCard

/-- THE SECOND FORM's CARD OF 'laws.FnExactIvWide'. -/
def fnExactIvWideUptoCard : Claim7 := { stood := { row := fnExactIvWideUptoRow, standIns := [], harness := (true, "c56b20966a7651d4cf2889b44c63e9cc5c7ca518844f262d346c08ed726301d9"), looks := false }, kinds := [], alts := [], laidByText := true, laidKinds := [.data, .data], laidTests := true, laidLooks := .later }
def FnExactIvWideUptoCardSaid : Prop := Claim7.holds Tryd.pinned (.plain (OpenSpec.upto fnExactIvWideSpec)) fnExactIvWideUptoCard
end Rows
end Go.Proofs.YtbihbloknmjfjaaDoor
