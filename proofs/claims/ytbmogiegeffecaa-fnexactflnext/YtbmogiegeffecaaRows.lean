/-
  No cell of these rows narrows 'for every input' (looked for: loops, veiled, ifaces, maps, wideKeys, modest, calm, conditions, laid).
  DERIVED. THE GIVEN ROWS OF THIS SEAT. 5 by the template 'for every input the law returns true; each argument reads behind the call as it read before'; 0 by the template 'total and deterministic' (their statements: YtbmogiegeffecaaTotals.lean).
  GIVEN WITH THE SEED: the statements are not yours to turn. If you find one false, say at which input.
  Laid BY PROGRAM, IN A SANDBOX (cutbox-rows.mjs): the forced cells as the released guide's own fill.sh prints them over the translation b29afa7348499e3b… (all of the seat's roots in one cut). By AI agents, Wed Nov 11 2026. No macro, syntax, notation, axiom, sorry.
-/
import Derived.Test.YtbmogiegeffecaaChecked
import GoSem.Claim
import GoSem.ClaimJoined
import GoSem.ClaimMapViews
import Derived.JoinedTies
import Derived.KernelRfl
namespace Go.Proofs.Ytbmogiegeffecaa
/- THE CELL 'sum', in the pinned program and in every row, IS THE sha256 OF THE DUMP (.gsa) THAT YtbmogiegeffecaaProg.lean LOADS. Nothing in Lean hashes anything: it is a label: what it is worth is what the hold of that sum in a sandbox is worth. -/
noncomputable def Try.pinned : Pinned := { name := "ytbmogiegeffecaa", sum := "b29afa7348499e3bd405cf78b7b4cdda1b8c52967afb5ad981f069c60593a71c", checked := Try.checked }
namespace Rows
def none {H : Type} : Left H := { results := [], args := [] }

/-- 'laws.FnExactFlOk': WHATEVER THE INPUT: true; the input reads as it did. -/
def fnExactFlOkSpec : ChangeSpec := { name := "fnExactFlOk", fn := fun _ => fun
  | [d] => { results := [.lit (.bool true)], args := [d] }
  | _ => none }
def fnExactFlOkRow : OpenClaim := { program := "ytbmogiegeffecaa", sum := "b29afa7348499e3bd405cf78b7b4cdda1b8c52967afb5ad981f069c60593a71c", func := "loop.example/g00382/laws.FnExactFlOk", spec := "fnExactFlOk", apart := false }
def FnExactFlOkSaid : Prop := fnExactFlOkRow.holds Try.pinned (OpenSpec.ofChange fnExactFlOkSpec)

/-- ITS FALSE NEIGHBOUR: 'it returns false'. Refute it at one input. -/
def fnExactFlOkWrong : ChangeSpec := { name := "fnExactFlOk", fn := fun _ => fun
  | [d] => { results := [.lit (.bool false)], args := [d] }
  | _ => none }
def FnExactFlOkWrongFalsely : Prop := fnExactFlOkRow.holds Try.pinned (OpenSpec.ofChange fnExactFlOkWrong)

/-- 'laws.FnExactFlPack': WHATEVER THE INPUT: true; the input reads as it did. -/
def fnExactFlPackSpec : ChangeSpec := { name := "fnExactFlPack", fn := fun _ => fun
  | [d] => { results := [.lit (.bool true)], args := [d] }
  | _ => none }
def fnExactFlPackRow : OpenClaim := { program := "ytbmogiegeffecaa", sum := "b29afa7348499e3bd405cf78b7b4cdda1b8c52967afb5ad981f069c60593a71c", func := "loop.example/g00382/laws.FnExactFlPack", spec := "fnExactFlPack", apart := false }
def FnExactFlPackSaid : Prop := fnExactFlPackRow.holds Try.pinned (OpenSpec.ofChange fnExactFlPackSpec)

/-- ITS FALSE NEIGHBOUR: 'it returns false'. Refute it at one input. -/
def fnExactFlPackWrong : ChangeSpec := { name := "fnExactFlPack", fn := fun _ => fun
  | [d] => { results := [.lit (.bool false)], args := [d] }
  | _ => none }
def FnExactFlPackWrongFalsely : Prop := fnExactFlPackRow.holds Try.pinned (OpenSpec.ofChange fnExactFlPackWrong)

/-- 'laws.FnExactFlUnpack': WHATEVER THE INPUT: true; the input reads as it did. -/
def fnExactFlUnpackSpec : ChangeSpec := { name := "fnExactFlUnpack", fn := fun _ => fun
  | [d1, d2] => { results := [.lit (.bool true)], args := [d1, d2] }
  | _ => none }
def fnExactFlUnpackRow : OpenClaim := { program := "ytbmogiegeffecaa", sum := "b29afa7348499e3bd405cf78b7b4cdda1b8c52967afb5ad981f069c60593a71c", func := "loop.example/g00382/laws.FnExactFlUnpack", spec := "fnExactFlUnpack", unfollowed := true, recurses := true, apart := false }
def FnExactFlUnpackSaid : Prop := fnExactFlUnpackRow.holds Try.pinned (OpenSpec.ofChange fnExactFlUnpackSpec)

/-- ITS FALSE NEIGHBOUR: 'it returns false'. Refute it at one input. -/
def fnExactFlUnpackWrong : ChangeSpec := { name := "fnExactFlUnpack", fn := fun _ => fun
  | [d1, d2] => { results := [.lit (.bool false)], args := [d1, d2] }
  | _ => none }
def FnExactFlUnpackWrongFalsely : Prop := fnExactFlUnpackRow.holds Try.pinned (OpenSpec.ofChange fnExactFlUnpackWrong)

/-- 'laws.FnExactFlNext': WHATEVER THE INPUT: true; the input reads as it did. -/
def fnExactFlNextSpec : ChangeSpec := { name := "fnExactFlNext", fn := fun _ => fun
  | [d] => { results := [.lit (.bool true)], args := [d] }
  | _ => none }
def fnExactFlNextRow : OpenClaim := { program := "ytbmogiegeffecaa", sum := "b29afa7348499e3bd405cf78b7b4cdda1b8c52967afb5ad981f069c60593a71c", func := "loop.example/g00382/laws.FnExactFlNext", spec := "fnExactFlNext", unfollowed := true, recurses := true, apart := false }
def FnExactFlNextSaid : Prop := fnExactFlNextRow.holds Try.pinned (OpenSpec.ofChange fnExactFlNextSpec)

/-- ITS FALSE NEIGHBOUR: 'it returns false'. Refute it at one input. -/
def fnExactFlNextWrong : ChangeSpec := { name := "fnExactFlNext", fn := fun _ => fun
  | [d] => { results := [.lit (.bool false)], args := [d] }
  | _ => none }
def FnExactFlNextWrongFalsely : Prop := fnExactFlNextRow.holds Try.pinned (OpenSpec.ofChange fnExactFlNextWrong)

/-- 'laws.FnExactFlNeg': WHATEVER THE INPUT: true; the input reads as it did. -/
def fnExactFlNegSpec : ChangeSpec := { name := "fnExactFlNeg", fn := fun _ => fun
  | [d] => { results := [.lit (.bool true)], args := [d] }
  | _ => none }
def fnExactFlNegRow : OpenClaim := { program := "ytbmogiegeffecaa", sum := "b29afa7348499e3bd405cf78b7b4cdda1b8c52967afb5ad981f069c60593a71c", func := "loop.example/g00382/laws.FnExactFlNeg", spec := "fnExactFlNeg", apart := false }
def FnExactFlNegSaid : Prop := fnExactFlNegRow.holds Try.pinned (OpenSpec.ofChange fnExactFlNegSpec)

/-- ITS FALSE NEIGHBOUR: 'it returns false'. Refute it at one input. -/
def fnExactFlNegWrong : ChangeSpec := { name := "fnExactFlNeg", fn := fun _ => fun
  | [d] => { results := [.lit (.bool false)], args := [d] }
  | _ => none }
def FnExactFlNegWrongFalsely : Prop := fnExactFlNegRow.holds Try.pinned (OpenSpec.ofChange fnExactFlNegWrong)

/- THE SECOND FORM. 'bulk': how many values and letters a reading holds, each counted each time it is reached (what is shared counts as often as it is met; a slice's spare places count too). A statement '..UptoSaid' is the law's where the arguments, and the package variables that the reading takes, are together of bulk at most 1048576: NARROWER than '..Said'. Prove '..Said' where nothing that the law and all that it calls make is longer than what came in: it says more and counts as full. Else prove '..UptoSaid'. A law counts once. -/
mutual
def uptoBulk {H : Type} : DataW H → Nat
  | .lit (.string bytes) => bytes.length + 1
  | .lit _ => 1
  | .nil => 1
  | .ptr d => uptoBulk d + 1
  | .slice elems spare => uptoBulkAll elems + uptoBulkAll spare + 1
  | .agg parts => uptoBulkAll parts + 1
  | .iface _ d => uptoBulk d + 1
  | .map entries => uptoBulkEntries entries + 1
  | .held _ => 1
def uptoBulkAll {H : Type} : List (DataW H) → Nat
  | [] => 0
  | d :: r => uptoBulk d + uptoBulkAll r
def uptoBulkEntries {H : Type} : List (Lit × DataW H) → Nat
  | [] => 0
  | x :: r => uptoBulkEntry x + uptoBulkEntries r
def uptoBulkEntry {H : Type} : Lit × DataW H → Nat
  | (.string bytes, d) => bytes.length + uptoBulk d + 1
  | (_, d) => uptoBulk d + 1
 end
def uptoSmall : (H : Type) → List (DataW H) → Bool := fun _ ds => decide (uptoBulkAll ds ≤ 1048576)
def OpenSpec.upto (s : _root_.Go.ChangeSpec) : _root_.Go.OpenSpec := { _root_.Go.OpenSpec.ofChange s with cond := some uptoSmall }

/-- 'laws.FnExactFlOk', WHERE WHAT IT READS IS OF BULK AT MOST 1048576: true; the input reads as it did. -/
def fnExactFlOkUptoRow : OpenClaim := { program := "ytbmogiegeffecaa", sum := "b29afa7348499e3bd405cf78b7b4cdda1b8c52967afb5ad981f069c60593a71c", func := "loop.example/g00382/laws.FnExactFlOk", spec := "fnExactFlOk", apart := false, narrowed := true }
def FnExactFlOkUptoSaid : Prop := fnExactFlOkUptoRow.holds Try.pinned (OpenSpec.upto fnExactFlOkSpec)

/-- 'laws.FnExactFlPack', WHERE WHAT IT READS IS OF BULK AT MOST 1048576: true; the input reads as it did. -/
def fnExactFlPackUptoRow : OpenClaim := { program := "ytbmogiegeffecaa", sum := "b29afa7348499e3bd405cf78b7b4cdda1b8c52967afb5ad981f069c60593a71c", func := "loop.example/g00382/laws.FnExactFlPack", spec := "fnExactFlPack", apart := false, narrowed := true }
def FnExactFlPackUptoSaid : Prop := fnExactFlPackUptoRow.holds Try.pinned (OpenSpec.upto fnExactFlPackSpec)

/-- 'laws.FnExactFlUnpack', WHERE WHAT IT READS IS OF BULK AT MOST 1048576: true; the input reads as it did. -/
def fnExactFlUnpackUptoRow : OpenClaim := { program := "ytbmogiegeffecaa", sum := "b29afa7348499e3bd405cf78b7b4cdda1b8c52967afb5ad981f069c60593a71c", func := "loop.example/g00382/laws.FnExactFlUnpack", spec := "fnExactFlUnpack", unfollowed := true, recurses := true, apart := false, narrowed := true }
def FnExactFlUnpackUptoSaid : Prop := fnExactFlUnpackUptoRow.holds Try.pinned (OpenSpec.upto fnExactFlUnpackSpec)

/-- 'laws.FnExactFlNext', WHERE WHAT IT READS IS OF BULK AT MOST 1048576: true; the input reads as it did. -/
def fnExactFlNextUptoRow : OpenClaim := { program := "ytbmogiegeffecaa", sum := "b29afa7348499e3bd405cf78b7b4cdda1b8c52967afb5ad981f069c60593a71c", func := "loop.example/g00382/laws.FnExactFlNext", spec := "fnExactFlNext", unfollowed := true, recurses := true, apart := false, narrowed := true }
def FnExactFlNextUptoSaid : Prop := fnExactFlNextUptoRow.holds Try.pinned (OpenSpec.upto fnExactFlNextSpec)

/-- 'laws.FnExactFlNeg', WHERE WHAT IT READS IS OF BULK AT MOST 1048576: true; the input reads as it did. -/
def fnExactFlNegUptoRow : OpenClaim := { program := "ytbmogiegeffecaa", sum := "b29afa7348499e3bd405cf78b7b4cdda1b8c52967afb5ad981f069c60593a71c", func := "loop.example/g00382/laws.FnExactFlNeg", spec := "fnExactFlNeg", apart := false, narrowed := true }
def FnExactFlNegUptoSaid : Prop := fnExactFlNegUptoRow.holds Try.pinned (OpenSpec.upto fnExactFlNegSpec)

end Rows
end Go.Proofs.Ytbmogiegeffecaa
