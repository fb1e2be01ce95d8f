/-
  DERIVED. GIVEN WITH THE SEED: THE CARDS: each row of YtbcojphjohpmdaaDoorRows.lean that lists a variable, with what it lists TIED to the program's text (the seventh form; the later family's looks); each row that meets fmt, with fmt's text TOLD by the authors' own Lean function (tested against real Go, not proved from fmt's source: count such statements apart). THE CARD IS WHAT COUNTS. Prove the row's statement (the work); the ties are given (YtbcojphjohpmdaaDoorTie.lean); close each card by the builder's one call (the guide's Derived/Test/ToyasCard.lean, 'card_holds'). Laid BY PROGRAM, IN A SANDBOX (cutbox-door.mjs). By AI agents, Wed Nov 11 2026. No macro, syntax, notation, axiom, sorry.
-/
import Derived.Test.YtbcojphjohpmdaaDoorRows
import GoSem.ClaimSeven
namespace Go.Proofs.YtbcojphjohpmdaaDoor
namespace Rows

/-- THE TIED CARD OF 'laws.FnExactDigitOf'. -/
def fnExactDigitOfCard : Claim7 := { stood := { row := fnExactDigitOfRow, standIns := [], harness := (true, "02a5bd7e7eeece42e5e5ac31d4b0fe9e4379a1827a59baafd7cf09795d86b05b"), looks := false }, kinds := [], alts := [], laidByText := true, laidKinds := [.data], laidTests := true, laidLooks := .later }
def FnExactDigitOfCardSaid : Prop := Claim7.holds Tryd.pinned (.plain (OpenSpec.ofChange fnExactDigitOfSpec)) fnExactDigitOfCard

/-- THE TIED CARD OF 'laws.FnExactPlain'. -/
def fnExactPlainCard : Claim7 := { stood := { row := fnExactPlainRow, standIns := [], harness := (true, "02a5bd7e7eeece42e5e5ac31d4b0fe9e4379a1827a59baafd7cf09795d86b05b"), looks := false }, kinds := [], alts := [], laidByText := true, laidKinds := [.data], laidTests := true, laidLooks := .later }
def FnExactPlainCardSaid : Prop := Claim7.holds Tryd.pinned (.plain (OpenSpec.ofChange fnExactPlainSpec)) fnExactPlainCard

/-- THE SECOND FORM's CARD OF 'laws.FnExactDigitOf'. -/
def fnExactDigitOfUptoCard : Claim7 := { stood := { row := fnExactDigitOfUptoRow, standIns := [], harness := (true, "02a5bd7e7eeece42e5e5ac31d4b0fe9e4379a1827a59baafd7cf09795d86b05b"), looks := false }, kinds := [], alts := [], laidByText := true, laidKinds := [.data], laidTests := true, laidLooks := .later }
def FnExactDigitOfUptoCardSaid : Prop := Claim7.holds Tryd.pinned (.plain (OpenSpec.upto fnExactDigitOfSpec)) fnExactDigitOfUptoCard

/-- THE SECOND FORM's CARD OF 'laws.FnExactPlain'. -/
def fnExactPlainUptoCard : Claim7 := { stood := { row := fnExactPlainUptoRow, standIns := [], harness := (true, "02a5bd7e7eeece42e5e5ac31d4b0fe9e4379a1827a59baafd7cf09795d86b05b"), looks := false }, kinds := [], alts := [], laidByText := true, laidKinds := [.data], laidTests := true, laidLooks := .later }
def FnExactPlainUptoCardSaid : Prop := Claim7.holds Tryd.pinned (.plain (OpenSpec.upto fnExactPlainSpec)) fnExactPlainUptoCard
end Rows
end Go.Proofs.YtbcojphjohpmdaaDoor
