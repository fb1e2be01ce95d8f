/-
  DERIVED. GIVEN WITH THE SEED: THE CARDS: each row of YtepehpkmejjhiaaGreatDoorRows.lean that lists a variable, with what it lists TIED to the program's text (the seventh form; the later family's looks); each row that meets fmt, with fmt's text TOLD by the authors' own Lean function (tested against real Go, not proved from fmt's source: count such statements apart). THE CARD IS WHAT COUNTS. Prove the row's statement (the work); the ties are given (YtepehpkmejjhiaaGreatDoorTie.lean); close each card by the builder's one call (the guide's Derived/Test/ToyasCard.lean, 'card_holds'). Laid BY PROGRAM, IN A SANDBOX (cutbox-door.mjs). By AI agents, Wed Nov 11 2026. No macro, syntax, notation, axiom, sorry.
-/
import Derived.Test.YtepehpkmejjhiaaGreatDoorRows
import GoSem.ClaimSeven
namespace Go.Proofs.YtepehpkmejjhiaaGreatDoor
namespace Rows

/-- THE TIED CARD OF 'laws.FnFmas'. -/
def fnFmasCard : Claim7 := { stood := { row := fnFmasRow, standIns := [], harness := (true, "a9b9616d332bfca1213007e08fb83ea9788d5db7fad4a7044252cd413fbda0b1"), looks := true }, kinds := [], alts := [], laidByText := true, laidKinds := [.data, .data], laidTests := true, laidLooks := .later }
def FnFmasCardSaid : Prop := Claim7.holds Tryz.pinned (.plain (OpenSpec.ofChange fnFmasSpec)) fnFmasCard

/-- THE TIED CARD OF 'laws.FnNexts'. -/
def fnNextsCard : Claim7 := { stood := { row := fnNextsRow, standIns := [], harness := (true, "a9b9616d332bfca1213007e08fb83ea9788d5db7fad4a7044252cd413fbda0b1"), looks := true }, kinds := [], alts := [], laidByText := true, laidKinds := [.data, .data], laidTests := true, laidLooks := .later }
def FnNextsCardSaid : Prop := Claim7.holds Tryz.pinned (.plain (OpenSpec.ofChange fnNextsSpec)) fnNextsCard

/-- THE TIED CARD OF 'laws.FnExactFlFma'. -/
def fnExactFlFmaCard : Claim7 := { stood := { row := fnExactFlFmaRow, standIns := [], harness := (true, "a9b9616d332bfca1213007e08fb83ea9788d5db7fad4a7044252cd413fbda0b1"), looks := true }, kinds := [], alts := [], laidByText := true, laidKinds := [.data, .data], laidTests := true, laidLooks := .later }
def FnExactFlFmaCardSaid : Prop := Claim7.holds Tryz.pinned (.plain (OpenSpec.ofChange fnExactFlFmaSpec)) fnExactFlFmaCard

/-- THE SECOND FORM's CARD OF 'laws.FnFmas'. -/
def fnFmasUptoCard : Claim7 := { stood := { row := fnFmasUptoRow, standIns := [], harness := (true, "a9b9616d332bfca1213007e08fb83ea9788d5db7fad4a7044252cd413fbda0b1"), looks := true }, kinds := [], alts := [], laidByText := true, laidKinds := [.data, .data], laidTests := true, laidLooks := .later }
def FnFmasUptoCardSaid : Prop := Claim7.holds Tryz.pinned (.plain (OpenSpec.upto fnFmasSpec)) fnFmasUptoCard

/-- THE SECOND FORM's CARD OF 'laws.FnNexts'. -/
def fnNextsUptoCard : Claim7 := { stood := { row := fnNextsUptoRow, standIns := [], harness := (true, "a9b9616d332bfca1213007e08fb83ea9788d5db7fad4a7044252cd413fbda0b1"), looks := true }, kinds := [], alts := [], laidByText := true, laidKinds := [.data, .data], laidTests := true, laidLooks := .later }
def FnNextsUptoCardSaid : Prop := Claim7.holds Tryz.pinned (.plain (OpenSpec.upto fnNextsSpec)) fnNextsUptoCard

/-- THE SECOND FORM's CARD OF 'laws.FnExactFlFma'. -/
def fnExactFlFmaUptoCard : Claim7 := { stood := { row := fnExactFlFmaUptoRow, standIns := [], harness := (true, "a9b9616d332bfca1213007e08fb83ea9788d5db7fad4a7044252cd413fbda0b1"), looks := true }, kinds := [], alts := [], laidByText := true, laidKinds := [.data, .data], laidTests := true, laidLooks := .later }
def FnExactFlFmaUptoCardSaid : Prop := Claim7.holds Tryz.pinned (.plain (OpenSpec.upto fnExactFlFmaSpec)) fnExactFlFmaUptoCard
end Rows
end Go.Proofs.YtepehpkmejjhiaaGreatDoor
