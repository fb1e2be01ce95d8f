/-
  DERIVED. GIVEN WITH THE SEED: THE CARDS: each row of YthahoabkehcgbaaGreatDoorRows.lean that lists a variable, with what it lists TIED to the program's text (the seventh form; the later family's looks); each row that meets fmt, with fmt's text TOLD by the authors' own Lean function (tested against real Go, not proved from fmt's source: count such statements apart). THE CARD IS WHAT COUNTS. Prove the row's statement (the work); the ties are given (YthahoabkehcgbaaGreatDoorTie.lean); close each card by the builder's one call (the guide's Derived/Test/ToyasCard.lean, 'card_holds'). Laid BY PROGRAM, IN A SANDBOX (cutbox-door.mjs). By AI agents, Wed Nov 11 2026. No macro, syntax, notation, axiom, sorry.
-/
import Derived.Test.YthahoabkehcgbaaGreatDoorRows
import GoSem.ClaimSeven
namespace Go.Proofs.YthahoabkehcgbaaGreatDoor
namespace Rows

/-- THE TIED CARD OF 'laws.FnExactIvMatAdd'. -/
def fnExactIvMatAddCard : Claim7 := { stood := { row := fnExactIvMatAddRow, standIns := [], harness := (true, "a7de4458dcd87e1101400f6eba4a3415e76447e98cad1f509ecc57ec04c2eeec"), looks := false }, kinds := [], alts := [], laidByText := true, laidKinds := [.data, .data], laidTests := true, laidLooks := .later }
def FnExactIvMatAddCardSaid : Prop := Claim7.holds Tryz.pinned (.plain (OpenSpec.ofChange fnExactIvMatAddSpec)) fnExactIvMatAddCard

/-- THE TIED CARD OF 'laws.FnExactIvMatMul'. -/
def fnExactIvMatMulCard : Claim7 := { stood := { row := fnExactIvMatMulRow, standIns := [], harness := (true, "a7de4458dcd87e1101400f6eba4a3415e76447e98cad1f509ecc57ec04c2eeec"), looks := false }, kinds := [], alts := [], laidByText := true, laidKinds := [.data, .data], laidTests := true, laidLooks := .later }
def FnExactIvMatMulCardSaid : Prop := Claim7.holds Tryz.pinned (.plain (OpenSpec.ofChange fnExactIvMatMulSpec)) fnExactIvMatMulCard

/-- THE TIED CARD OF 'laws.FnExactIvMatDiv'. -/
def fnExactIvMatDivCard : Claim7 := { stood := { row := fnExactIvMatDivRow, standIns := [], harness := (true, "a7de4458dcd87e1101400f6eba4a3415e76447e98cad1f509ecc57ec04c2eeec"), looks := false }, kinds := [], alts := [], laidByText := true, laidKinds := [.data, .data], laidTests := true, laidLooks := .later }
def FnExactIvMatDivCardSaid : Prop := Claim7.holds Tryz.pinned (.plain (OpenSpec.ofChange fnExactIvMatDivSpec)) fnExactIvMatDivCard

/-- THE TIED CARD OF 'laws.FnExactIvMatOut'. -/
def fnExactIvMatOutCard : Claim7 := { stood := { row := fnExactIvMatOutRow, standIns := [], harness := (true, "a7de4458dcd87e1101400f6eba4a3415e76447e98cad1f509ecc57ec04c2eeec"), looks := false }, kinds := [], alts := [], laidByText := true, laidKinds := [.data, .data], laidTests := true, laidLooks := .later }
def FnExactIvMatOutCardSaid : Prop := Claim7.holds Tryz.pinned (.plain (OpenSpec.ofChange fnExactIvMatOutSpec)) fnExactIvMatOutCard

/-- THE TIED CARD OF 'laws.FnExactIvMatFat'. -/
def fnExactIvMatFatCard : Claim7 := { stood := { row := fnExactIvMatFatRow, standIns := [], harness := (true, "a7de4458dcd87e1101400f6eba4a3415e76447e98cad1f509ecc57ec04c2eeec"), looks := false }, kinds := [], alts := [], laidByText := true, laidKinds := [.data, .data], laidTests := true, laidLooks := .later }
def FnExactIvMatFatCardSaid : Prop := Claim7.holds Tryz.pinned (.plain (OpenSpec.ofChange fnExactIvMatFatSpec)) fnExactIvMatFatCard

/-- THE TIED CARD OF 'laws.FnExactIvMatMid'. -/
def fnExactIvMatMidCard : Claim7 := { stood := { row := fnExactIvMatMidRow, standIns := [], harness := (true, "a7de4458dcd87e1101400f6eba4a3415e76447e98cad1f509ecc57ec04c2eeec"), looks := false }, kinds := [], alts := [], laidByText := true, laidKinds := [.data, .data], laidTests := true, laidLooks := .later }
def FnExactIvMatMidCardSaid : Prop := Claim7.holds Tryz.pinned (.plain (OpenSpec.ofChange fnExactIvMatMidSpec)) fnExactIvMatMidCard

/-- THE TIED CARD OF 'laws.FnExactIvMatWide'. -/
def fnExactIvMatWideCard : Claim7 := { stood := { row := fnExactIvMatWideRow, standIns := [], harness := (true, "a7de4458dcd87e1101400f6eba4a3415e76447e98cad1f509ecc57ec04c2eeec"), looks := false }, kinds := [], alts := [], laidByText := true, laidKinds := [.data, .data], laidTests := true, laidLooks := .later }
def FnExactIvMatWideCardSaid : Prop := Claim7.holds Tryz.pinned (.plain (OpenSpec.ofChange fnExactIvMatWideSpec)) fnExactIvMatWideCard

/-- THE SECOND FORM's CARD OF 'laws.FnExactIvMatAdd'. -/
def fnExactIvMatAddUptoCard : Claim7 := { stood := { row := fnExactIvMatAddUptoRow, standIns := [], harness := (true, "a7de4458dcd87e1101400f6eba4a3415e76447e98cad1f509ecc57ec04c2eeec"), looks := false }, kinds := [], alts := [], laidByText := true, laidKinds := [.data, .data], laidTests := true, laidLooks := .later }
def FnExactIvMatAddUptoCardSaid : Prop := Claim7.holds Tryz.pinned (.plain (OpenSpec.upto fnExactIvMatAddSpec)) fnExactIvMatAddUptoCard

/-- THE SECOND FORM's CARD OF 'laws.FnExactIvMatMul'. -/
def fnExactIvMatMulUptoCard : Claim7 := { stood := { row := fnExactIvMatMulUptoRow, standIns := [], harness := (true, "a7de4458dcd87e1101400f6eba4a3415e76447e98cad1f509ecc57ec04c2eeec"), looks := false }, kinds := [], alts := [], laidByText := true, laidKinds := [.data, .data], laidTests := true, laidLooks := .later }
def FnExactIvMatMulUptoCardSaid : Prop := Claim7.holds Tryz.pinned (.plain (OpenSpec.upto fnExactIvMatMulSpec)) fnExactIvMatMulUptoCard

/-- THE SECOND FORM's CARD OF 'laws.FnExactIvMatDiv'. -/
def fnExactIvMatDivUptoCard : Claim7 := { stood := { row := fnExactIvMatDivUptoRow, standIns := [], harness := (true, "a7de4458dcd87e1101400f6eba4a3415e76447e98cad1f509ecc57ec04c2eeec"), looks := false }, kinds := [], alts := [], laidByText := true, laidKinds := [.data, .data], laidTests := true, laidLooks := .later }
def FnExactIvMatDivUptoCardSaid : Prop := Claim7.holds Tryz.pinned (.plain (OpenSpec.upto fnExactIvMatDivSpec)) fnExactIvMatDivUptoCard

/-- THE SECOND FORM's CARD OF 'laws.FnExactIvMatOut'. -/
def fnExactIvMatOutUptoCard : Claim7 := { stood := { row := fnExactIvMatOutUptoRow, standIns := [], harness := (true, "a7de4458dcd87e1101400f6eba4a3415e76447e98cad1f509ecc57ec04c2eeec"), looks := false }, kinds := [], alts := [], laidByText := true, laidKinds := [.data, .data], laidTests := true, laidLooks := .later }
def FnExactIvMatOutUptoCardSaid : Prop := Claim7.holds Tryz.pinned (.plain (OpenSpec.upto fnExactIvMatOutSpec)) fnExactIvMatOutUptoCard

/-- THE SECOND FORM's CARD OF 'laws.FnExactIvMatFat'. -/
def fnExactIvMatFatUptoCard : Claim7 := { stood := { row := fnExactIvMatFatUptoRow, standIns := [], harness := (true, "a7de4458dcd87e1101400f6eba4a3415e76447e98cad1f509ecc57ec04c2eeec"), looks := false }, kinds := [], alts := [], laidByText := true, laidKinds := [.data, .data], laidTests := true, laidLooks := .later }
def FnExactIvMatFatUptoCardSaid : Prop := Claim7.holds Tryz.pinned (.plain (OpenSpec.upto fnExactIvMatFatSpec)) fnExactIvMatFatUptoCard

/-- THE SECOND FORM's CARD OF 'laws.FnExactIvMatMid'. -/
def fnExactIvMatMidUptoCard : Claim7 := { stood := { row := fnExactIvMatMidUptoRow, standIns := [], harness := (true, "a7de4458dcd87e1101400f6eba4a3415e76447e98cad1f509ecc57ec04c2eeec"), looks := false }, kinds := [], alts := [], laidByText := true, laidKinds := [.data, .data], laidTests := true, laidLooks := .later }
def FnExactIvMatMidUptoCardSaid : Prop := Claim7.holds Tryz.pinned (.plain (OpenSpec.upto fnExactIvMatMidSpec)) fnExactIvMatMidUptoCard

/-- THE SECOND FORM's CARD OF 'laws.FnExactIvMatWide'. -/
def fnExactIvMatWideUptoCard : Claim7 := { stood := { row := fnExactIvMatWideUptoRow, standIns := [], harness := (true, "a7de4458dcd87e1101400f6eba4a3415e76447e98cad1f509ecc57ec04c2eeec"), looks := false }, kinds := [], alts := [], laidByText := true, laidKinds := [.data, .data], laidTests := true, laidLooks := .later }
def FnExactIvMatWideUptoCardSaid : Prop := Claim7.holds Tryz.pinned (.plain (OpenSpec.upto fnExactIvMatWideSpec)) fnExactIvMatWideUptoCard
end Rows
end Go.Proofs.YthahoabkehcgbaaGreatDoor
