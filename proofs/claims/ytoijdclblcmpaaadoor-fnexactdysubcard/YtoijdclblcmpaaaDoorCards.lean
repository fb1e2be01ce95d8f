/-
  DERIVED. GIVEN WITH THE SEED: THE CARDS: each row of YtoijdclblcmpaaaDoorRows.lean that lists a variable, with what it lists TIED to the program's text (the seventh form; the later family's looks); each row that meets fmt, with fmt's text TOLD by the authors' own Lean function (tested against real Go, not proved from fmt's source: count such statements apart). THE CARD IS WHAT COUNTS. Prove the row's statement (the work); the ties are given (YtoijdclblcmpaaaDoorTie.lean); close each card by the builder's one call (the guide's Derived/Test/ToyasCard.lean, 'card_holds'). Laid BY PROGRAM, IN A SANDBOX (cutbox-door.mjs). By AI agents, Wed Nov 11 2026. No macro, syntax, notation, axiom, sorry.
-/
import Derived.Test.YtoijdclblcmpaaaDoorRows
import GoSem.ClaimSeven
namespace Go.Proofs.YtoijdclblcmpaaaDoor
namespace Rows

/-- THE TIED CARD OF 'laws.FnPlains'. -/
def fnPlainsCard : Claim7 := { stood := { row := fnPlainsRow, standIns := [], harness := (true, "3b2d7a3ce3e4725c9a23323095d0c247b9f7974e4490911885ad559db4280027"), looks := false }, kinds := [], alts := [], laidByText := true, laidKinds := [.data], laidTests := true, laidLooks := .later }
def FnPlainsCardSaid : Prop := Claim7.holds Tryd.pinned (.plain (OpenSpec.ofChange fnPlainsSpec)) fnPlainsCard

/-- THE TIED CARD OF 'laws.FnNatShifts'. -/
def fnNatShiftsCard : Claim7 := { stood := { row := fnNatShiftsRow, standIns := [], harness := (true, "3b2d7a3ce3e4725c9a23323095d0c247b9f7974e4490911885ad559db4280027"), looks := false }, kinds := [], alts := [], laidByText := true, laidKinds := [.data, .data], laidTests := true, laidLooks := .later }
def FnNatShiftsCardSaid : Prop := Claim7.holds Tryd.pinned (.plain (OpenSpec.ofChange fnNatShiftsSpec)) fnNatShiftsCard

/-- THE TIED CARD OF 'laws.FnWholeTexts'. -/
def fnWholeTextsCard : Claim7 := { stood := { row := fnWholeTextsRow, standIns := [], harness := (true, "3b2d7a3ce3e4725c9a23323095d0c247b9f7974e4490911885ad559db4280027"), looks := false }, kinds := [], alts := [], laidByText := true, laidKinds := [.data], laidTests := true, laidLooks := .later }
def FnWholeTextsCardSaid : Prop := Claim7.holds Tryd.pinned (.plain (OpenSpec.ofChange fnWholeTextsSpec)) fnWholeTextsCard

/-- THE TIED CARD OF 'laws.FnDyRing'. -/
def fnDyRingCard : Claim7 := { stood := { row := fnDyRingRow, standIns := [], harness := (true, "3b2d7a3ce3e4725c9a23323095d0c247b9f7974e4490911885ad559db4280027"), looks := false }, kinds := [], alts := [], laidByText := true, laidKinds := [.data, .data], laidTests := true, laidLooks := .later }
def FnDyRingCardSaid : Prop := Claim7.holds Tryd.pinned (.plain (OpenSpec.ofChange fnDyRingSpec)) fnDyRingCard

/-- THE TIED CARD OF 'laws.FnDyOrder'. -/
def fnDyOrderCard : Claim7 := { stood := { row := fnDyOrderRow, standIns := [], harness := (true, "3b2d7a3ce3e4725c9a23323095d0c247b9f7974e4490911885ad559db4280027"), looks := false }, kinds := [], alts := [], laidByText := true, laidKinds := [.data, .data], laidTests := true, laidLooks := .later }
def FnDyOrderCardSaid : Prop := Claim7.holds Tryd.pinned (.plain (OpenSpec.ofChange fnDyOrderSpec)) fnDyOrderCard

/-- THE TIED CARD OF 'laws.FnExactNatTrail'. -/
def fnExactNatTrailCard : Claim7 := { stood := { row := fnExactNatTrailRow, standIns := [], harness := (true, "3b2d7a3ce3e4725c9a23323095d0c247b9f7974e4490911885ad559db4280027"), looks := false }, kinds := [], alts := [], laidByText := true, laidKinds := [.data, .data], laidTests := true, laidLooks := .later }
def FnExactNatTrailCardSaid : Prop := Claim7.holds Tryd.pinned (.plain (OpenSpec.ofChange fnExactNatTrailSpec)) fnExactNatTrailCard

/-- THE TIED CARD OF 'laws.FnExactWholeRead'. -/
def fnExactWholeReadCard : Claim7 := { stood := { row := fnExactWholeReadRow, standIns := [], harness := (true, "3b2d7a3ce3e4725c9a23323095d0c247b9f7974e4490911885ad559db4280027"), looks := false }, kinds := [], alts := [], laidByText := true, laidKinds := [.data], laidTests := true, laidLooks := .later }
def FnExactWholeReadCardSaid : Prop := Claim7.holds Tryd.pinned (.plain (OpenSpec.ofChange fnExactWholeReadSpec)) fnExactWholeReadCard

/-- THE TIED CARD OF 'laws.FnExactDyOf'. -/
def fnExactDyOfCard : Claim7 := { stood := { row := fnExactDyOfRow, standIns := [], harness := (true, "3b2d7a3ce3e4725c9a23323095d0c247b9f7974e4490911885ad559db4280027"), looks := false }, kinds := [], alts := [], laidByText := true, laidKinds := [.data, .data], laidTests := true, laidLooks := .later }
def FnExactDyOfCardSaid : Prop := Claim7.holds Tryd.pinned (.plain (OpenSpec.ofChange fnExactDyOfSpec)) fnExactDyOfCard

/-- THE TIED CARD OF 'laws.FnExactDyNeg'. -/
def fnExactDyNegCard : Claim7 := { stood := { row := fnExactDyNegRow, standIns := [], harness := (true, "3b2d7a3ce3e4725c9a23323095d0c247b9f7974e4490911885ad559db4280027"), looks := false }, kinds := [], alts := [], laidByText := true, laidKinds := [.data, .data], laidTests := true, laidLooks := .later }
def FnExactDyNegCardSaid : Prop := Claim7.holds Tryd.pinned (.plain (OpenSpec.ofChange fnExactDyNegSpec)) fnExactDyNegCard

/-- THE TIED CARD OF 'laws.FnExactDyAdd'. -/
def fnExactDyAddCard : Claim7 := { stood := { row := fnExactDyAddRow, standIns := [], harness := (true, "3b2d7a3ce3e4725c9a23323095d0c247b9f7974e4490911885ad559db4280027"), looks := false }, kinds := [], alts := [], laidByText := true, laidKinds := [.data, .data], laidTests := true, laidLooks := .later }
def FnExactDyAddCardSaid : Prop := Claim7.holds Tryd.pinned (.plain (OpenSpec.ofChange fnExactDyAddSpec)) fnExactDyAddCard

/-- THE TIED CARD OF 'laws.FnExactDySub'. -/
def fnExactDySubCard : Claim7 := { stood := { row := fnExactDySubRow, standIns := [], harness := (true, "3b2d7a3ce3e4725c9a23323095d0c247b9f7974e4490911885ad559db4280027"), looks := false }, kinds := [], alts := [], laidByText := true, laidKinds := [.data, .data], laidTests := true, laidLooks := .later }
def FnExactDySubCardSaid : Prop := Claim7.holds Tryd.pinned (.plain (OpenSpec.ofChange fnExactDySubSpec)) fnExactDySubCard

/-- THE TIED CARD OF 'laws.FnExactDyMul'. -/
def fnExactDyMulCard : Claim7 := { stood := { row := fnExactDyMulRow, standIns := [], harness := (true, "3b2d7a3ce3e4725c9a23323095d0c247b9f7974e4490911885ad559db4280027"), looks := false }, kinds := [], alts := [], laidByText := true, laidKinds := [.data, .data], laidTests := true, laidLooks := .later }
def FnExactDyMulCardSaid : Prop := Claim7.holds Tryd.pinned (.plain (OpenSpec.ofChange fnExactDyMulSpec)) fnExactDyMulCard

/-- THE TIED CARD OF 'laws.FnExactDyShift'. -/
def fnExactDyShiftCard : Claim7 := { stood := { row := fnExactDyShiftRow, standIns := [], harness := (true, "3b2d7a3ce3e4725c9a23323095d0c247b9f7974e4490911885ad559db4280027"), looks := false }, kinds := [], alts := [], laidByText := true, laidKinds := [.data, .data], laidTests := true, laidLooks := .later }
def FnExactDyShiftCardSaid : Prop := Claim7.holds Tryd.pinned (.plain (OpenSpec.ofChange fnExactDyShiftSpec)) fnExactDyShiftCard

/-- THE TIED CARD OF 'laws.FnExactDyRound'. -/
def fnExactDyRoundCard : Claim7 := { stood := { row := fnExactDyRoundRow, standIns := [], harness := (true, "3b2d7a3ce3e4725c9a23323095d0c247b9f7974e4490911885ad559db4280027"), looks := false }, kinds := [], alts := [], laidByText := true, laidKinds := [.data, .data], laidTests := true, laidLooks := .later }
def FnExactDyRoundCardSaid : Prop := Claim7.holds Tryd.pinned (.plain (OpenSpec.ofChange fnExactDyRoundSpec)) fnExactDyRoundCard

/-- THE TIED CARD OF 'laws.FnExactDyDiv'. -/
def fnExactDyDivCard : Claim7 := { stood := { row := fnExactDyDivRow, standIns := [], harness := (true, "3b2d7a3ce3e4725c9a23323095d0c247b9f7974e4490911885ad559db4280027"), looks := false }, kinds := [], alts := [], laidByText := true, laidKinds := [.data, .data], laidTests := true, laidLooks := .later }
def FnExactDyDivCardSaid : Prop := Claim7.holds Tryd.pinned (.plain (OpenSpec.ofChange fnExactDyDivSpec)) fnExactDyDivCard

/-- THE TIED CARD OF 'laws.FnExactDyRoot'. -/
def fnExactDyRootCard : Claim7 := { stood := { row := fnExactDyRootRow, standIns := [], harness := (true, "3b2d7a3ce3e4725c9a23323095d0c247b9f7974e4490911885ad559db4280027"), looks := false }, kinds := [], alts := [], laidByText := true, laidKinds := [.data, .data], laidTests := true, laidLooks := .later }
def FnExactDyRootCardSaid : Prop := Claim7.holds Tryd.pinned (.plain (OpenSpec.ofChange fnExactDyRootSpec)) fnExactDyRootCard

/-- THE SECOND FORM's CARD OF 'laws.FnPlains'. -/
def fnPlainsUptoCard : Claim7 := { stood := { row := fnPlainsUptoRow, standIns := [], harness := (true, "3b2d7a3ce3e4725c9a23323095d0c247b9f7974e4490911885ad559db4280027"), looks := false }, kinds := [], alts := [], laidByText := true, laidKinds := [.data], laidTests := true, laidLooks := .later }
def FnPlainsUptoCardSaid : Prop := Claim7.holds Tryd.pinned (.plain (OpenSpec.upto fnPlainsSpec)) fnPlainsUptoCard

/-- THE SECOND FORM's CARD OF 'laws.FnNatShifts'. -/
def fnNatShiftsUptoCard : Claim7 := { stood := { row := fnNatShiftsUptoRow, standIns := [], harness := (true, "3b2d7a3ce3e4725c9a23323095d0c247b9f7974e4490911885ad559db4280027"), looks := false }, kinds := [], alts := [], laidByText := true, laidKinds := [.data, .data], laidTests := true, laidLooks := .later }
def FnNatShiftsUptoCardSaid : Prop := Claim7.holds Tryd.pinned (.plain (OpenSpec.upto fnNatShiftsSpec)) fnNatShiftsUptoCard

/-- THE SECOND FORM's CARD OF 'laws.FnWholeTexts'. -/
def fnWholeTextsUptoCard : Claim7 := { stood := { row := fnWholeTextsUptoRow, standIns := [], harness := (true, "3b2d7a3ce3e4725c9a23323095d0c247b9f7974e4490911885ad559db4280027"), looks := false }, kinds := [], alts := [], laidByText := true, laidKinds := [.data], laidTests := true, laidLooks := .later }
def FnWholeTextsUptoCardSaid : Prop := Claim7.holds Tryd.pinned (.plain (OpenSpec.upto fnWholeTextsSpec)) fnWholeTextsUptoCard

/-- THE SECOND FORM's CARD OF 'laws.FnDyRing'. -/
def fnDyRingUptoCard : Claim7 := { stood := { row := fnDyRingUptoRow, standIns := [], harness := (true, "3b2d7a3ce3e4725c9a23323095d0c247b9f7974e4490911885ad559db4280027"), looks := false }, kinds := [], alts := [], laidByText := true, laidKinds := [.data, .data], laidTests := true, laidLooks := .later }
def FnDyRingUptoCardSaid : Prop := Claim7.holds Tryd.pinned (.plain (OpenSpec.upto fnDyRingSpec)) fnDyRingUptoCard

/-- THE SECOND FORM's CARD OF 'laws.FnDyOrder'. -/
def fnDyOrderUptoCard : Claim7 := { stood := { row := fnDyOrderUptoRow, standIns := [], harness := (true, "3b2d7a3ce3e4725c9a23323095d0c247b9f7974e4490911885ad559db4280027"), looks := false }, kinds := [], alts := [], laidByText := true, laidKinds := [.data, .data], laidTests := true, laidLooks := .later }
def FnDyOrderUptoCardSaid : Prop := Claim7.holds Tryd.pinned (.plain (OpenSpec.upto fnDyOrderSpec)) fnDyOrderUptoCard

/-- THE SECOND FORM's CARD OF 'laws.FnExactNatTrail'. -/
def fnExactNatTrailUptoCard : Claim7 := { stood := { row := fnExactNatTrailUptoRow, standIns := [], harness := (true, "3b2d7a3ce3e4725c9a23323095d0c247b9f7974e4490911885ad559db4280027"), looks := false }, kinds := [], alts := [], laidByText := true, laidKinds := [.data, .data], laidTests := true, laidLooks := .later }
def FnExactNatTrailUptoCardSaid : Prop := Claim7.holds Tryd.pinned (.plain (OpenSpec.upto fnExactNatTrailSpec)) fnExactNatTrailUptoCard

/-- THE SECOND FORM's CARD OF 'laws.FnExactWholeRead'. -/
def fnExactWholeReadUptoCard : Claim7 := { stood := { row := fnExactWholeReadUptoRow, standIns := [], harness := (true, "3b2d7a3ce3e4725c9a23323095d0c247b9f7974e4490911885ad559db4280027"), looks := false }, kinds := [], alts := [], laidByText := true, laidKinds := [.data], laidTests := true, laidLooks := .later }
def FnExactWholeReadUptoCardSaid : Prop := Claim7.holds Tryd.pinned (.plain (OpenSpec.upto fnExactWholeReadSpec)) fnExactWholeReadUptoCard

/-- THE SECOND FORM's CARD OF 'laws.FnExactDyOf'. -/
def fnExactDyOfUptoCard : Claim7 := { stood := { row := fnExactDyOfUptoRow, standIns := [], harness := (true, "3b2d7a3ce3e4725c9a23323095d0c247b9f7974e4490911885ad559db4280027"), looks := false }, kinds := [], alts := [], laidByText := true, laidKinds := [.data, .data], laidTests := true, laidLooks := .later }
def FnExactDyOfUptoCardSaid : Prop := Claim7.holds Tryd.pinned (.plain (OpenSpec.upto fnExactDyOfSpec)) fnExactDyOfUptoCard

/-- THE SECOND FORM's CARD OF 'laws.FnExactDyNeg'. -/
def fnExactDyNegUptoCard : Claim7 := { stood := { row := fnExactDyNegUptoRow, standIns := [], harness := (true, "3b2d7a3ce3e4725c9a23323095d0c247b9f7974e4490911885ad559db4280027"), looks := false }, kinds := [], alts := [], laidByText := true, laidKinds := [.data, .data], laidTests := true, laidLooks := .later }
def FnExactDyNegUptoCardSaid : Prop := Claim7.holds Tryd.pinned (.plain (OpenSpec.upto fnExactDyNegSpec)) fnExactDyNegUptoCard

/-- THE SECOND FORM's CARD OF 'laws.FnExactDyAdd'. -/
def fnExactDyAddUptoCard : Claim7 := { stood := { row := fnExactDyAddUptoRow, standIns := [], harness := (true, "3b2d7a3ce3e4725c9a23323095d0c247b9f7974e4490911885ad559db4280027"), looks := false }, kinds := [], alts := [], laidByText := true, laidKinds := [.data, .data], laidTests := true, laidLooks := .later }
def FnExactDyAddUptoCardSaid : Prop := Claim7.holds Tryd.pinned (.plain (OpenSpec.upto fnExactDyAddSpec)) fnExactDyAddUptoCard

/-- THE SECOND FORM's CARD OF 'laws.FnExactDySub'. -/
def fnExactDySubUptoCard : Claim7 := { stood := { row := fnExactDySubUptoRow, standIns := [], harness := (true, "3b2d7a3ce3e4725c9a23323095d0c247b9f7974e4490911885ad559db4280027"), looks := false }, kinds := [], alts := [], laidByText := true, laidKinds := [.data, .data], laidTests := true, laidLooks := .later }
def FnExactDySubUptoCardSaid : Prop := Claim7.holds Tryd.pinned (.plain (OpenSpec.upto fnExactDySubSpec)) fnExactDySubUptoCard

/-- THE SECOND FORM's CARD OF 'laws.FnExactDyMul'. -/
def fnExactDyMulUptoCard : Claim7 := { stood := { row := fnExactDyMulUptoRow, standIns := [], harness := (true, "3b2d7a3ce3e4725c9a23323095d0c247b9f7974e4490911885ad559db4280027"), looks := false }, kinds := [], alts := [], laidByText := true, laidKinds := [.data, .data], laidTests := true, laidLooks := .later }
def FnExactDyMulUptoCardSaid : Prop := Claim7.holds Tryd.pinned (.plain (OpenSpec.upto fnExactDyMulSpec)) fnExactDyMulUptoCard

/-- THE SECOND FORM's CARD OF 'laws.FnExactDyShift'. -/
def fnExactDyShiftUptoCard : Claim7 := { stood := { row := fnExactDyShiftUptoRow, standIns := [], harness := (true, "3b2d7a3ce3e4725c9a23323095d0c247b9f7974e4490911885ad559db4280027"), looks := false }, kinds := [], alts := [], laidByText := true, laidKinds := [.data, .data], laidTests := true, laidLooks := .later }
def FnExactDyShiftUptoCardSaid : Prop := Claim7.holds Tryd.pinned (.plain (OpenSpec.upto fnExactDyShiftSpec)) fnExactDyShiftUptoCard

/-- THE SECOND FORM's CARD OF 'laws.FnExactDyRound'. -/
def fnExactDyRoundUptoCard : Claim7 := { stood := { row := fnExactDyRoundUptoRow, standIns := [], harness := (true, "3b2d7a3ce3e4725c9a23323095d0c247b9f7974e4490911885ad559db4280027"), looks := false }, kinds := [], alts := [], laidByText := true, laidKinds := [.data, .data], laidTests := true, laidLooks := .later }
def FnExactDyRoundUptoCardSaid : Prop := Claim7.holds Tryd.pinned (.plain (OpenSpec.upto fnExactDyRoundSpec)) fnExactDyRoundUptoCard

/-- THE SECOND FORM's CARD OF 'laws.FnExactDyDiv'. -/
def fnExactDyDivUptoCard : Claim7 := { stood := { row := fnExactDyDivUptoRow, standIns := [], harness := (true, "3b2d7a3ce3e4725c9a23323095d0c247b9f7974e4490911885ad559db4280027"), looks := false }, kinds := [], alts := [], laidByText := true, laidKinds := [.data, .data], laidTests := true, laidLooks := .later }
def FnExactDyDivUptoCardSaid : Prop := Claim7.holds Tryd.pinned (.plain (OpenSpec.upto fnExactDyDivSpec)) fnExactDyDivUptoCard

/-- THE SECOND FORM's CARD OF 'laws.FnExactDyRoot'. -/
def fnExactDyRootUptoCard : Claim7 := { stood := { row := fnExactDyRootUptoRow, standIns := [], harness := (true, "3b2d7a3ce3e4725c9a23323095d0c247b9f7974e4490911885ad559db4280027"), looks := false }, kinds := [], alts := [], laidByText := true, laidKinds := [.data, .data], laidTests := true, laidLooks := .later }
def FnExactDyRootUptoCardSaid : Prop := Claim7.holds Tryd.pinned (.plain (OpenSpec.upto fnExactDyRootSpec)) fnExactDyRootUptoCard
end Rows
end Go.Proofs.YtoijdclblcmpaaaDoor
