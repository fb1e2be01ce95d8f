/-
  DERIVED. GIVEN WITH THE SEED: THE CARDS: each row of YtdlpkppkmfjdiaaDoorRows.lean that lists a variable, with what it lists TIED to the program's text (the seventh form; the later family's looks); each row that meets fmt, with fmt's text TOLD by the authors' own Lean function (tested against real Go, not proved from fmt's source: count such statements apart). THE CARD IS WHAT COUNTS. Prove the row's statement (the work); the ties are given (YtdlpkppkmfjdiaaDoorTie.lean); close each card by the builder's one call (the guide's Derived/Test/ToyasCard.lean, 'card_holds'). Laid BY PROGRAM, IN A SANDBOX (cutbox-door.mjs). By AI agents, Wed Nov 11 2026. No macro, syntax, notation, axiom, sorry.
-/
import Derived.Test.YtdlpkppkmfjdiaaDoorRows
import GoSem.ClaimSeven
namespace Go.Proofs.YtdlpkppkmfjdiaaDoor
namespace Rows

/-- THE TIED CARD OF 'laws.FnNatShifts'. -/
def fnNatShiftsCard : Claim7 := { stood := { row := fnNatShiftsRow, standIns := [], harness := (true, "538702b8c5388fe55754e3ce70ba8630b73b59bfdcc08ae4f5e6e4705c045681"), looks := true }, kinds := [], alts := [], laidByText := true, laidKinds := [.data, .data], laidTests := true, laidLooks := .later }
def FnNatShiftsCardSaid : Prop := Claim7.holds Tryd.pinned (.plain (OpenSpec.ofChange fnNatShiftsSpec)) fnNatShiftsCard

/-- THE TIED CARD OF 'laws.FnDyRing'. -/
def fnDyRingCard : Claim7 := { stood := { row := fnDyRingRow, standIns := [], harness := (true, "538702b8c5388fe55754e3ce70ba8630b73b59bfdcc08ae4f5e6e4705c045681"), looks := true }, kinds := [], alts := [], laidByText := true, laidKinds := [.data, .data], laidTests := true, laidLooks := .later }
def FnDyRingCardSaid : Prop := Claim7.holds Tryd.pinned (.plain (OpenSpec.ofChange fnDyRingSpec)) fnDyRingCard

/-- THE TIED CARD OF 'laws.FnDyOrder'. -/
def fnDyOrderCard : Claim7 := { stood := { row := fnDyOrderRow, standIns := [], harness := (true, "538702b8c5388fe55754e3ce70ba8630b73b59bfdcc08ae4f5e6e4705c045681"), looks := true }, kinds := [], alts := [], laidByText := true, laidKinds := [.data, .data], laidTests := true, laidLooks := .later }
def FnDyOrderCardSaid : Prop := Claim7.holds Tryd.pinned (.plain (OpenSpec.ofChange fnDyOrderSpec)) fnDyOrderCard

/-- THE TIED CARD OF 'laws.FnExactWholeRead'. -/
def fnExactWholeReadCard : Claim7 := { stood := { row := fnExactWholeReadRow, standIns := [], harness := (true, "538702b8c5388fe55754e3ce70ba8630b73b59bfdcc08ae4f5e6e4705c045681"), looks := true }, kinds := [], alts := [], laidByText := true, laidKinds := [.data], laidTests := true, laidLooks := .later }
def FnExactWholeReadCardSaid : Prop := Claim7.holds Tryd.pinned (.plain (OpenSpec.ofChange fnExactWholeReadSpec)) fnExactWholeReadCard

/-- THE TIED CARD OF 'laws.FnExactFlDy'. -/
def fnExactFlDyCard : Claim7 := { stood := { row := fnExactFlDyRow, standIns := [], harness := (true, "538702b8c5388fe55754e3ce70ba8630b73b59bfdcc08ae4f5e6e4705c045681"), looks := true }, kinds := [], alts := [], laidByText := true, laidKinds := [.data, .data], laidTests := true, laidLooks := .later }
def FnExactFlDyCardSaid : Prop := Claim7.holds Tryd.pinned (.plain (OpenSpec.ofChange fnExactFlDySpec)) fnExactFlDyCard

/-- THE TIED CARD OF 'laws.FnExactFlUlp'. -/
def fnExactFlUlpCard : Claim7 := { stood := { row := fnExactFlUlpRow, standIns := [], harness := (true, "538702b8c5388fe55754e3ce70ba8630b73b59bfdcc08ae4f5e6e4705c045681"), looks := true }, kinds := [], alts := [], laidByText := true, laidKinds := [.data, .data], laidTests := true, laidLooks := .later }
def FnExactFlUlpCardSaid : Prop := Claim7.holds Tryd.pinned (.plain (OpenSpec.ofChange fnExactFlUlpSpec)) fnExactFlUlpCard

/-- THE SECOND FORM's CARD OF 'laws.FnNatShifts'. -/
def fnNatShiftsUptoCard : Claim7 := { stood := { row := fnNatShiftsUptoRow, standIns := [], harness := (true, "538702b8c5388fe55754e3ce70ba8630b73b59bfdcc08ae4f5e6e4705c045681"), looks := true }, kinds := [], alts := [], laidByText := true, laidKinds := [.data, .data], laidTests := true, laidLooks := .later }
def FnNatShiftsUptoCardSaid : Prop := Claim7.holds Tryd.pinned (.plain (OpenSpec.upto fnNatShiftsSpec)) fnNatShiftsUptoCard

/-- THE SECOND FORM's CARD OF 'laws.FnDyRing'. -/
def fnDyRingUptoCard : Claim7 := { stood := { row := fnDyRingUptoRow, standIns := [], harness := (true, "538702b8c5388fe55754e3ce70ba8630b73b59bfdcc08ae4f5e6e4705c045681"), looks := true }, kinds := [], alts := [], laidByText := true, laidKinds := [.data, .data], laidTests := true, laidLooks := .later }
def FnDyRingUptoCardSaid : Prop := Claim7.holds Tryd.pinned (.plain (OpenSpec.upto fnDyRingSpec)) fnDyRingUptoCard

/-- THE SECOND FORM's CARD OF 'laws.FnDyOrder'. -/
def fnDyOrderUptoCard : Claim7 := { stood := { row := fnDyOrderUptoRow, standIns := [], harness := (true, "538702b8c5388fe55754e3ce70ba8630b73b59bfdcc08ae4f5e6e4705c045681"), looks := true }, kinds := [], alts := [], laidByText := true, laidKinds := [.data, .data], laidTests := true, laidLooks := .later }
def FnDyOrderUptoCardSaid : Prop := Claim7.holds Tryd.pinned (.plain (OpenSpec.upto fnDyOrderSpec)) fnDyOrderUptoCard

/-- THE SECOND FORM's CARD OF 'laws.FnExactWholeRead'. -/
def fnExactWholeReadUptoCard : Claim7 := { stood := { row := fnExactWholeReadUptoRow, standIns := [], harness := (true, "538702b8c5388fe55754e3ce70ba8630b73b59bfdcc08ae4f5e6e4705c045681"), looks := true }, kinds := [], alts := [], laidByText := true, laidKinds := [.data], laidTests := true, laidLooks := .later }
def FnExactWholeReadUptoCardSaid : Prop := Claim7.holds Tryd.pinned (.plain (OpenSpec.upto fnExactWholeReadSpec)) fnExactWholeReadUptoCard

/-- THE SECOND FORM's CARD OF 'laws.FnExactFlDy'. -/
def fnExactFlDyUptoCard : Claim7 := { stood := { row := fnExactFlDyUptoRow, standIns := [], harness := (true, "538702b8c5388fe55754e3ce70ba8630b73b59bfdcc08ae4f5e6e4705c045681"), looks := true }, kinds := [], alts := [], laidByText := true, laidKinds := [.data, .data], laidTests := true, laidLooks := .later }
def FnExactFlDyUptoCardSaid : Prop := Claim7.holds Tryd.pinned (.plain (OpenSpec.upto fnExactFlDySpec)) fnExactFlDyUptoCard

/-- THE SECOND FORM's CARD OF 'laws.FnExactFlUlp'. -/
def fnExactFlUlpUptoCard : Claim7 := { stood := { row := fnExactFlUlpUptoRow, standIns := [], harness := (true, "538702b8c5388fe55754e3ce70ba8630b73b59bfdcc08ae4f5e6e4705c045681"), looks := true }, kinds := [], alts := [], laidByText := true, laidKinds := [.data, .data], laidTests := true, laidLooks := .later }
def FnExactFlUlpUptoCardSaid : Prop := Claim7.holds Tryd.pinned (.plain (OpenSpec.upto fnExactFlUlpSpec)) fnExactFlUlpUptoCard
end Rows
end Go.Proofs.YtdlpkppkmfjdiaaDoor
