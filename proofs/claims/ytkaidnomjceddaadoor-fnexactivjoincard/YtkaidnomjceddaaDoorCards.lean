/-
  DERIVED. GIVEN WITH THE SEED: THE CARDS: each row of YtkaidnomjceddaaDoorRows.lean that lists a variable, with what it lists TIED to the program's text (the seventh form; the later family's looks); each row that meets fmt, with fmt's text TOLD by the authors' own Lean function (tested against real Go, not proved from fmt's source: count such statements apart). THE CARD IS WHAT COUNTS. Prove the row's statement (the work); the ties are given (YtkaidnomjceddaaDoorTie.lean); close each card by the builder's one call (the guide's Derived/Test/ToyasCard.lean, 'card_holds'). Laid BY PROGRAM, IN A SANDBOX (cutbox-door.mjs). By AI agents, Wed Nov 11 2026. No macro, syntax, notation, axiom, sorry.
-/
import Derived.Test.YtkaidnomjceddaaDoorRows
import GoSem.ClaimSeven
namespace Go.Proofs.YtkaidnomjceddaaDoor
namespace Rows

/-- THE TIED CARD OF 'laws.FnExactIvMeet'. -/
def fnExactIvMeetCard : Claim7 := { stood := { row := fnExactIvMeetRow, standIns := [], harness := (true, "23f958abdebb694b0fa1c75b917ee40ab11d9edeae071654d9d2bdfc87b15843"), looks := false }, kinds := [], alts := [], laidByText := true, laidKinds := [.data, .data], laidTests := true, laidLooks := .later }
def FnExactIvMeetCardSaid : Prop := Claim7.holds Tryd.pinned (.plain (OpenSpec.ofChange fnExactIvMeetSpec)) fnExactIvMeetCard

/-- THE TIED CARD OF 'laws.FnExactIvJoin'. -/
def fnExactIvJoinCard : Claim7 := { stood := { row := fnExactIvJoinRow, standIns := [], harness := (true, "23f958abdebb694b0fa1c75b917ee40ab11d9edeae071654d9d2bdfc87b15843"), looks := false }, kinds := [], alts := [], laidByText := true, laidKinds := [.data, .data], laidTests := true, laidLooks := .later }
def FnExactIvJoinCardSaid : Prop := Claim7.holds Tryd.pinned (.plain (OpenSpec.ofChange fnExactIvJoinSpec)) fnExactIvJoinCard

/-- THE SECOND FORM's CARD OF 'laws.FnExactIvMeet'. -/
def fnExactIvMeetUptoCard : Claim7 := { stood := { row := fnExactIvMeetUptoRow, standIns := [], harness := (true, "23f958abdebb694b0fa1c75b917ee40ab11d9edeae071654d9d2bdfc87b15843"), looks := false }, kinds := [], alts := [], laidByText := true, laidKinds := [.data, .data], laidTests := true, laidLooks := .later }
def FnExactIvMeetUptoCardSaid : Prop := Claim7.holds Tryd.pinned (.plain (OpenSpec.upto fnExactIvMeetSpec)) fnExactIvMeetUptoCard

/-- THE SECOND FORM's CARD OF 'laws.FnExactIvJoin'. -/
def fnExactIvJoinUptoCard : Claim7 := { stood := { row := fnExactIvJoinUptoRow, standIns := [], harness := (true, "23f958abdebb694b0fa1c75b917ee40ab11d9edeae071654d9d2bdfc87b15843"), looks := false }, kinds := [], alts := [], laidByText := true, laidKinds := [.data, .data], laidTests := true, laidLooks := .later }
def FnExactIvJoinUptoCardSaid : Prop := Claim7.holds Tryd.pinned (.plain (OpenSpec.upto fnExactIvJoinSpec)) fnExactIvJoinUptoCard
end Rows
end Go.Proofs.YtkaidnomjceddaaDoor
