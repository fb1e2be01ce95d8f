/-
  DERIVED. GIVEN WITH THE SEED: THE CARDS: each row of YtagaofpkfpfilaaGreatDoorRows.lean that lists a variable, with what it lists TIED to the program's text (the seventh form; the later family's looks); each row that meets fmt, with fmt's text TOLD by the authors' own Lean function (tested against real Go, not proved from fmt's source: count such statements apart). THE CARD IS WHAT COUNTS. Prove the row's statement (the work); the ties are given (YtagaofpkfpfilaaGreatDoorTie.lean); close each card by the builder's one call (the guide's Derived/Test/ToyasCard.lean, 'card_holds'). Laid BY PROGRAM, IN A SANDBOX (cutbox-door.mjs). By AI agents, Wed Nov 11 2026. No macro, syntax, notation, axiom, sorry.
-/
import Derived.Test.YtagaofpkfpfilaaGreatDoorRows
import GoSem.ClaimSeven
namespace Go.Proofs.YtagaofpkfpfilaaGreatDoor
namespace Rows

/-- THE TIED CARD OF 'laws.FnExactMatTrace'. -/
def fnExactMatTraceCard : Claim7 := { stood := { row := fnExactMatTraceRow, standIns := [], harness := (true, "e5b9a277f87501d72d6d7819e6706e55503a6134dbb3d6424a2a0641709f2543"), looks := false }, kinds := [], alts := [], laidByText := true, laidKinds := [.data, .data], laidTests := true, laidLooks := .later }
def FnExactMatTraceCardSaid : Prop := Claim7.holds Tryz.pinned (.plain (OpenSpec.ofChange fnExactMatTraceSpec)) fnExactMatTraceCard

/-- THE TIED CARD OF 'laws.FnExactMatAdd'. -/
def fnExactMatAddCard : Claim7 := { stood := { row := fnExactMatAddRow, standIns := [], harness := (true, "e5b9a277f87501d72d6d7819e6706e55503a6134dbb3d6424a2a0641709f2543"), looks := false }, kinds := [], alts := [], laidByText := true, laidKinds := [.data, .data], laidTests := true, laidLooks := .later }
def FnExactMatAddCardSaid : Prop := Claim7.holds Tryz.pinned (.plain (OpenSpec.ofChange fnExactMatAddSpec)) fnExactMatAddCard

/-- THE TIED CARD OF 'laws.FnExactMatSub'. -/
def fnExactMatSubCard : Claim7 := { stood := { row := fnExactMatSubRow, standIns := [], harness := (true, "e5b9a277f87501d72d6d7819e6706e55503a6134dbb3d6424a2a0641709f2543"), looks := false }, kinds := [], alts := [], laidByText := true, laidKinds := [.data, .data], laidTests := true, laidLooks := .later }
def FnExactMatSubCardSaid : Prop := Claim7.holds Tryz.pinned (.plain (OpenSpec.ofChange fnExactMatSubSpec)) fnExactMatSubCard

/-- THE TIED CARD OF 'laws.FnExactMatMul'. -/
def fnExactMatMulCard : Claim7 := { stood := { row := fnExactMatMulRow, standIns := [], harness := (true, "e5b9a277f87501d72d6d7819e6706e55503a6134dbb3d6424a2a0641709f2543"), looks := false }, kinds := [], alts := [], laidByText := true, laidKinds := [.data, .data], laidTests := true, laidLooks := .later }
def FnExactMatMulCardSaid : Prop := Claim7.holds Tryz.pinned (.plain (OpenSpec.ofChange fnExactMatMulSpec)) fnExactMatMulCard

/-- THE SECOND FORM's CARD OF 'laws.FnExactMatTrace'. -/
def fnExactMatTraceUptoCard : Claim7 := { stood := { row := fnExactMatTraceUptoRow, standIns := [], harness := (true, "e5b9a277f87501d72d6d7819e6706e55503a6134dbb3d6424a2a0641709f2543"), looks := false }, kinds := [], alts := [], laidByText := true, laidKinds := [.data, .data], laidTests := true, laidLooks := .later }
def FnExactMatTraceUptoCardSaid : Prop := Claim7.holds Tryz.pinned (.plain (OpenSpec.upto fnExactMatTraceSpec)) fnExactMatTraceUptoCard

/-- THE SECOND FORM's CARD OF 'laws.FnExactMatAdd'. -/
def fnExactMatAddUptoCard : Claim7 := { stood := { row := fnExactMatAddUptoRow, standIns := [], harness := (true, "e5b9a277f87501d72d6d7819e6706e55503a6134dbb3d6424a2a0641709f2543"), looks := false }, kinds := [], alts := [], laidByText := true, laidKinds := [.data, .data], laidTests := true, laidLooks := .later }
def FnExactMatAddUptoCardSaid : Prop := Claim7.holds Tryz.pinned (.plain (OpenSpec.upto fnExactMatAddSpec)) fnExactMatAddUptoCard

/-- THE SECOND FORM's CARD OF 'laws.FnExactMatSub'. -/
def fnExactMatSubUptoCard : Claim7 := { stood := { row := fnExactMatSubUptoRow, standIns := [], harness := (true, "e5b9a277f87501d72d6d7819e6706e55503a6134dbb3d6424a2a0641709f2543"), looks := false }, kinds := [], alts := [], laidByText := true, laidKinds := [.data, .data], laidTests := true, laidLooks := .later }
def FnExactMatSubUptoCardSaid : Prop := Claim7.holds Tryz.pinned (.plain (OpenSpec.upto fnExactMatSubSpec)) fnExactMatSubUptoCard

/-- THE SECOND FORM's CARD OF 'laws.FnExactMatMul'. -/
def fnExactMatMulUptoCard : Claim7 := { stood := { row := fnExactMatMulUptoRow, standIns := [], harness := (true, "e5b9a277f87501d72d6d7819e6706e55503a6134dbb3d6424a2a0641709f2543"), looks := false }, kinds := [], alts := [], laidByText := true, laidKinds := [.data, .data], laidTests := true, laidLooks := .later }
def FnExactMatMulUptoCardSaid : Prop := Claim7.holds Tryz.pinned (.plain (OpenSpec.upto fnExactMatMulSpec)) fnExactMatMulUptoCard
end Rows
end Go.Proofs.YtagaofpkfpfilaaGreatDoor
