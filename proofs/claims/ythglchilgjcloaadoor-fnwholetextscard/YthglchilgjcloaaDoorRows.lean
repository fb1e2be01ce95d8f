/-
  NARROWER THAN 'FOR EVERY INPUT', by the rows' own cells (each row's printed sentence says how): FnExactWholeRead: laid · FnWholeTexts: laid.
  DERIVED. THE GIVEN ROWS OF THIS SEAT. 2 by the template 'for every input the law returns true; each argument reads behind the call as it read before'; 0 by the template 'total and deterministic' (their statements: YthglchilgjcloaaDoorTotals.lean).
  GIVEN WITH THE SEED: the statements are not yours to turn. If you find one false, say at which input.
  Laid BY PROGRAM, IN A SANDBOX (cutbox-rows.mjs): the forced cells as the released guide's own fill.sh prints them over the translation 899d65200e61c2a5… (all of the seat's roots in one cut). By AI agents, Wed Nov 11 2026. No macro, syntax, notation, axiom, sorry.
-/
import Derived.Test.YthglchilgjcloaaDoorChecked
import GoSem.Claim
import GoSem.ClaimJoined
import GoSem.ClaimMapViews
import Derived.JoinedTies
import Derived.KernelRfl
namespace Go.Proofs.YthglchilgjcloaaDoor
/- THE CELL 'sum', in the pinned program and in every row, IS THE sha256 OF THE DUMP (.gsa) THAT YthglchilgjcloaaDoorProg.lean LOADS. Nothing in Lean hashes anything: it is a label: what it is worth is what the hold of that sum in a sandbox is worth. -/
noncomputable def Tryd.pinned : Pinned := { name := "ythglchilgjcloaadoor", sum := "899d65200e61c2a53b02aa0cafc22ce813529cd6c61b5e5528ac275c9dc4934e", checked := Tryd.checked }
namespace Rows
def none {H : Type} : Left H := { results := [], args := [] }

/- WHAT THE LISTED PACKAGE-LEVEL VARIABLES READ AS WHEN THE CALL BEGINS. Each datum BY PROGRAM (the guide's laid-datum.mjs) off the statement by which the dump's own 'gosem.cut.vars' lays the variable. In a bare row this is a premise. The card (YthglchilgjcloaaDoorCards.lean) ties it to the program's text. -/
def laid_loop_example_g00382_impl_noughts {H : Type} : DataW H := .agg [.lit (.int .i64 48), .lit (.int .i64 1632), .lit (.int .i64 1776), .lit (.int .i64 2406), .lit (.int .i64 65296)]

/-- 'laws.FnExactWholeRead': WHATEVER THE INPUT: true; the input reads as it did. -/
def fnExactWholeReadSpec : ChangeSpec := { name := "fnExactWholeRead", vars := ["loop.example/g00382/impl.noughts"], fn := fun _ => fun
  | [d, g1] => { results := [.lit (.bool true)], args := [d], vars := [g1] }
  | _ => none }
def fnExactWholeReadRow : OpenClaim := { program := "ythglchilgjcloaadoor", sum := "899d65200e61c2a53b02aa0cafc22ce813529cd6c61b5e5528ac275c9dc4934e", func := "loop.example/g00382/laws.FnExactWholeRead", spec := "fnExactWholeRead", named := ["loop.example/g00382/impl.noughts"], apart := false, laid := [("loop.example/g00382/impl.noughts", laid_loop_example_g00382_impl_noughts)] }
def FnExactWholeReadSaid : Prop := fnExactWholeReadRow.holds Tryd.pinned (OpenSpec.ofChange fnExactWholeReadSpec)

/-- ITS FALSE NEIGHBOUR: 'it returns false'. Refute it at one input. -/
def fnExactWholeReadWrong : ChangeSpec := { name := "fnExactWholeRead", vars := ["loop.example/g00382/impl.noughts"], fn := fun _ => fun
  | [d, g1] => { results := [.lit (.bool false)], args := [d], vars := [g1] }
  | _ => none }
def FnExactWholeReadWrongFalsely : Prop := fnExactWholeReadRow.holds Tryd.pinned (OpenSpec.ofChange fnExactWholeReadWrong)

/-- 'laws.FnWholeTexts': WHATEVER THE INPUT: true; the input reads as it did. -/
def fnWholeTextsSpec : ChangeSpec := { name := "fnWholeTexts", vars := ["loop.example/g00382/impl.noughts"], fn := fun _ => fun
  | [d, g1] => { results := [.lit (.bool true)], args := [d], vars := [g1] }
  | _ => none }
def fnWholeTextsRow : OpenClaim := { program := "ythglchilgjcloaadoor", sum := "899d65200e61c2a53b02aa0cafc22ce813529cd6c61b5e5528ac275c9dc4934e", func := "loop.example/g00382/laws.FnWholeTexts", spec := "fnWholeTexts", unfollowed := true, recurses := true, named := ["loop.example/g00382/impl.noughts"], apart := false, laid := [("loop.example/g00382/impl.noughts", laid_loop_example_g00382_impl_noughts)] }
def FnWholeTextsSaid : Prop := fnWholeTextsRow.holds Tryd.pinned (OpenSpec.ofChange fnWholeTextsSpec)

/-- ITS FALSE NEIGHBOUR: 'it returns false'. Refute it at one input. -/
def fnWholeTextsWrong : ChangeSpec := { name := "fnWholeTexts", vars := ["loop.example/g00382/impl.noughts"], fn := fun _ => fun
  | [d, g1] => { results := [.lit (.bool false)], args := [d], vars := [g1] }
  | _ => none }
def FnWholeTextsWrongFalsely : Prop := fnWholeTextsRow.holds Tryd.pinned (OpenSpec.ofChange fnWholeTextsWrong)

/- THE SECOND FORM. 'bulk': how many values and letters a reading holds, each counted each time it is reached (what is shared counts as often as it is met; a slice's spare places count too). A statement '..UptoSaid' is the law's where the arguments, and the package variables that the reading takes, are together of bulk at most 1048576: NARROWER than '..Said'. Prove '..Said' where nothing that the law and all that it calls make is longer than what came in: it says more and counts as full. Else prove '..UptoSaid'. A law counts once. -/
mutual
def uptoBulk {H : Type} : DataW H → Nat
  | .lit (.string bytes) => bytes.length + 1
  | .lit _ => 1
  | .nil => 1
  | .ptr d => uptoBulk d + 1
  | .slice elems spare => uptoBulkAll elems + uptoBulkAll spare + 1
  | .agg parts => uptoBulkAll parts + 1
  | .iface _ d => uptoBulk d + 1
  | .map entries => uptoBulkEntries entries + 1
  | .held _ => 1
def uptoBulkAll {H : Type} : List (DataW H) → Nat
  | [] => 0
  | d :: r => uptoBulk d + uptoBulkAll r
def uptoBulkEntries {H : Type} : List (Lit × DataW H) → Nat
  | [] => 0
  | x :: r => uptoBulkEntry x + uptoBulkEntries r
def uptoBulkEntry {H : Type} : Lit × DataW H → Nat
  | (.string bytes, d) => bytes.length + uptoBulk d + 1
  | (_, d) => uptoBulk d + 1
 end
def uptoSmall : (H : Type) → List (DataW H) → Bool := fun _ ds => decide (uptoBulkAll ds ≤ 1048576)
def OpenSpec.upto (s : _root_.Go.ChangeSpec) : _root_.Go.OpenSpec := { _root_.Go.OpenSpec.ofChange s with cond := some uptoSmall }

/-- 'laws.FnExactWholeRead', WHERE WHAT IT READS IS OF BULK AT MOST 1048576: true; the input reads as it did. -/
def fnExactWholeReadUptoRow : OpenClaim := { program := "ythglchilgjcloaadoor", sum := "899d65200e61c2a53b02aa0cafc22ce813529cd6c61b5e5528ac275c9dc4934e", func := "loop.example/g00382/laws.FnExactWholeRead", spec := "fnExactWholeRead", named := ["loop.example/g00382/impl.noughts"], apart := false, laid := [("loop.example/g00382/impl.noughts", laid_loop_example_g00382_impl_noughts)], narrowed := true }
def FnExactWholeReadUptoSaid : Prop := fnExactWholeReadUptoRow.holds Tryd.pinned (OpenSpec.upto fnExactWholeReadSpec)

/-- 'laws.FnWholeTexts', WHERE WHAT IT READS IS OF BULK AT MOST 1048576: true; the input reads as it did. -/
def fnWholeTextsUptoRow : OpenClaim := { program := "ythglchilgjcloaadoor", sum := "899d65200e61c2a53b02aa0cafc22ce813529cd6c61b5e5528ac275c9dc4934e", func := "loop.example/g00382/laws.FnWholeTexts", spec := "fnWholeTexts", unfollowed := true, recurses := true, named := ["loop.example/g00382/impl.noughts"], apart := false, laid := [("loop.example/g00382/impl.noughts", laid_loop_example_g00382_impl_noughts)], narrowed := true }
def FnWholeTextsUptoSaid : Prop := fnWholeTextsUptoRow.holds Tryd.pinned (OpenSpec.upto fnWholeTextsSpec)

end Rows
end Go.Proofs.YthglchilgjcloaaDoor
