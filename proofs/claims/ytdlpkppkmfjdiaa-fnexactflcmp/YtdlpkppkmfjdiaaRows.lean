/-
  No cell of these rows narrows 'for every input' (looked for: loops, veiled, ifaces, maps, wideKeys, modest, calm, conditions, laid).
  DERIVED. THE GIVEN ROWS OF THIS SEAT. 7 by the template 'for every input the law returns true; each argument reads behind the call as it read before'; 0 by the template 'total and deterministic' (their statements: YtdlpkppkmfjdiaaTotals.lean).
  GIVEN WITH THE SEED: the statements are not yours to turn. If you find one false, say at which input.
  Laid BY PROGRAM, IN A SANDBOX (cutbox-rows.mjs): the forced cells as the released guide's own fill.sh prints them over the translation 387c024bfe4258b6… (all of the seat's roots in one cut). By AI agents, Wed Nov 11 2026. No macro, syntax, notation, axiom, sorry.
-/
import Derived.Test.YtdlpkppkmfjdiaaChecked
import GoSem.Claim
import GoSem.ClaimJoined
import GoSem.ClaimMapViews
import Derived.JoinedTies
import Derived.KernelRfl
namespace Go.Proofs.Ytdlpkppkmfjdiaa
/- THE CELL 'sum', in the pinned program and in every row, IS THE sha256 OF THE DUMP (.gsa) THAT YtdlpkppkmfjdiaaProg.lean LOADS. Nothing in Lean hashes anything: it is a label: what it is worth is what the hold of that sum in a sandbox is worth. -/
noncomputable def Try.pinned : Pinned := { name := "ytdlpkppkmfjdiaa", sum := "387c024bfe4258b68f56b11d19d30e32c874ea571b21749dd25ec9c2c7164523", checked := Try.checked }
namespace Rows
def none {H : Type} : Left H := { results := [], args := [] }

/-- 'laws.FnNatRing': WHATEVER THE INPUT: true; the input reads as it did. -/
def fnNatRingSpec : ChangeSpec := { name := "fnNatRing", fn := fun _ => fun
  | [d] => { results := [.lit (.bool true)], args := [d] }
  | _ => none }
def fnNatRingRow : OpenClaim := { program := "ytdlpkppkmfjdiaa", sum := "387c024bfe4258b68f56b11d19d30e32c874ea571b21749dd25ec9c2c7164523", func := "loop.example/g00382/laws.FnNatRing", spec := "fnNatRing", apart := false }
def FnNatRingSaid : Prop := fnNatRingRow.holds Try.pinned (OpenSpec.ofChange fnNatRingSpec)

/-- ITS FALSE NEIGHBOUR: 'it returns false'. Refute it at one input. -/
def fnNatRingWrong : ChangeSpec := { name := "fnNatRing", fn := fun _ => fun
  | [d] => { results := [.lit (.bool false)], args := [d] }
  | _ => none }
def FnNatRingWrongFalsely : Prop := fnNatRingRow.holds Try.pinned (OpenSpec.ofChange fnNatRingWrong)

/-- 'laws.FnNatOrder': WHATEVER THE INPUT: true; the input reads as it did. -/
def fnNatOrderSpec : ChangeSpec := { name := "fnNatOrder", fn := fun _ => fun
  | [d] => { results := [.lit (.bool true)], args := [d] }
  | _ => none }
def fnNatOrderRow : OpenClaim := { program := "ytdlpkppkmfjdiaa", sum := "387c024bfe4258b68f56b11d19d30e32c874ea571b21749dd25ec9c2c7164523", func := "loop.example/g00382/laws.FnNatOrder", spec := "fnNatOrder", apart := false }
def FnNatOrderSaid : Prop := fnNatOrderRow.holds Try.pinned (OpenSpec.ofChange fnNatOrderSpec)

/-- ITS FALSE NEIGHBOUR: 'it returns false'. Refute it at one input. -/
def fnNatOrderWrong : ChangeSpec := { name := "fnNatOrder", fn := fun _ => fun
  | [d] => { results := [.lit (.bool false)], args := [d] }
  | _ => none }
def FnNatOrderWrongFalsely : Prop := fnNatOrderRow.holds Try.pinned (OpenSpec.ofChange fnNatOrderWrong)

/-- 'laws.FnWholes': WHATEVER THE INPUT: true; the input reads as it did. -/
def fnWholesSpec : ChangeSpec := { name := "fnWholes", fn := fun _ => fun
  | [d] => { results := [.lit (.bool true)], args := [d] }
  | _ => none }
def fnWholesRow : OpenClaim := { program := "ytdlpkppkmfjdiaa", sum := "387c024bfe4258b68f56b11d19d30e32c874ea571b21749dd25ec9c2c7164523", func := "loop.example/g00382/laws.FnWholes", spec := "fnWholes", apart := false }
def FnWholesSaid : Prop := fnWholesRow.holds Try.pinned (OpenSpec.ofChange fnWholesSpec)

/-- ITS FALSE NEIGHBOUR: 'it returns false'. Refute it at one input. -/
def fnWholesWrong : ChangeSpec := { name := "fnWholes", fn := fun _ => fun
  | [d] => { results := [.lit (.bool false)], args := [d] }
  | _ => none }
def FnWholesWrongFalsely : Prop := fnWholesRow.holds Try.pinned (OpenSpec.ofChange fnWholesWrong)

/-- 'laws.FnWholeDivs': WHATEVER THE INPUT: true; the input reads as it did. -/
def fnWholeDivsSpec : ChangeSpec := { name := "fnWholeDivs", fn := fun _ => fun
  | [d] => { results := [.lit (.bool true)], args := [d] }
  | _ => none }
def fnWholeDivsRow : OpenClaim := { program := "ytdlpkppkmfjdiaa", sum := "387c024bfe4258b68f56b11d19d30e32c874ea571b21749dd25ec9c2c7164523", func := "loop.example/g00382/laws.FnWholeDivs", spec := "fnWholeDivs", apart := false }
def FnWholeDivsSaid : Prop := fnWholeDivsRow.holds Try.pinned (OpenSpec.ofChange fnWholeDivsSpec)

/-- ITS FALSE NEIGHBOUR: 'it returns false'. Refute it at one input. -/
def fnWholeDivsWrong : ChangeSpec := { name := "fnWholeDivs", fn := fun _ => fun
  | [d] => { results := [.lit (.bool false)], args := [d] }
  | _ => none }
def FnWholeDivsWrongFalsely : Prop := fnWholeDivsRow.holds Try.pinned (OpenSpec.ofChange fnWholeDivsWrong)

/-- 'laws.FnExactNatInt': WHATEVER THE INPUT: true; the input reads as it did. -/
def fnExactNatIntSpec : ChangeSpec := { name := "fnExactNatInt", fn := fun _ => fun
  | [d] => { results := [.lit (.bool true)], args := [d] }
  | _ => none }
def fnExactNatIntRow : OpenClaim := { program := "ytdlpkppkmfjdiaa", sum := "387c024bfe4258b68f56b11d19d30e32c874ea571b21749dd25ec9c2c7164523", func := "loop.example/g00382/laws.FnExactNatInt", spec := "fnExactNatInt", apart := false }
def FnExactNatIntSaid : Prop := fnExactNatIntRow.holds Try.pinned (OpenSpec.ofChange fnExactNatIntSpec)

/-- ITS FALSE NEIGHBOUR: 'it returns false'. Refute it at one input. -/
def fnExactNatIntWrong : ChangeSpec := { name := "fnExactNatInt", fn := fun _ => fun
  | [d] => { results := [.lit (.bool false)], args := [d] }
  | _ => none }
def FnExactNatIntWrongFalsely : Prop := fnExactNatIntRow.holds Try.pinned (OpenSpec.ofChange fnExactNatIntWrong)

/-- 'laws.FnExactWholeDiv': WHATEVER THE INPUT: true; the input reads as it did. -/
def fnExactWholeDivSpec : ChangeSpec := { name := "fnExactWholeDiv", fn := fun _ => fun
  | [d1, d2] => { results := [.lit (.bool true)], args := [d1, d2] }
  | _ => none }
def fnExactWholeDivRow : OpenClaim := { program := "ytdlpkppkmfjdiaa", sum := "387c024bfe4258b68f56b11d19d30e32c874ea571b21749dd25ec9c2c7164523", func := "loop.example/g00382/laws.FnExactWholeDiv", spec := "fnExactWholeDiv", apart := false }
def FnExactWholeDivSaid : Prop := fnExactWholeDivRow.holds Try.pinned (OpenSpec.ofChange fnExactWholeDivSpec)

/-- ITS FALSE NEIGHBOUR: 'it returns false'. Refute it at one input. -/
def fnExactWholeDivWrong : ChangeSpec := { name := "fnExactWholeDiv", fn := fun _ => fun
  | [d1, d2] => { results := [.lit (.bool false)], args := [d1, d2] }
  | _ => none }
def FnExactWholeDivWrongFalsely : Prop := fnExactWholeDivRow.holds Try.pinned (OpenSpec.ofChange fnExactWholeDivWrong)

/-- 'laws.FnExactFlCmp': WHATEVER THE INPUT: true; the input reads as it did. -/
def fnExactFlCmpSpec : ChangeSpec := { name := "fnExactFlCmp", fn := fun _ => fun
  | [d1, d2] => { results := [.lit (.bool true)], args := [d1, d2] }
  | _ => none }
def fnExactFlCmpRow : OpenClaim := { program := "ytdlpkppkmfjdiaa", sum := "387c024bfe4258b68f56b11d19d30e32c874ea571b21749dd25ec9c2c7164523", func := "loop.example/g00382/laws.FnExactFlCmp", spec := "fnExactFlCmp", unfollowed := true, recurses := true, apart := false }
def FnExactFlCmpSaid : Prop := fnExactFlCmpRow.holds Try.pinned (OpenSpec.ofChange fnExactFlCmpSpec)

/-- ITS FALSE NEIGHBOUR: 'it returns false'. Refute it at one input. -/
def fnExactFlCmpWrong : ChangeSpec := { name := "fnExactFlCmp", fn := fun _ => fun
  | [d1, d2] => { results := [.lit (.bool false)], args := [d1, d2] }
  | _ => none }
def FnExactFlCmpWrongFalsely : Prop := fnExactFlCmpRow.holds Try.pinned (OpenSpec.ofChange fnExactFlCmpWrong)

/- THE SECOND FORM. 'bulk': how many values and letters a reading holds, each counted each time it is reached (what is shared counts as often as it is met; a slice's spare places count too). A statement '..UptoSaid' is the law's where the arguments, and the package variables that the reading takes, are together of bulk at most 1048576: NARROWER than '..Said'. Prove '..Said' where nothing that the law and all that it calls make is longer than what came in: it says more and counts as full. Else prove '..UptoSaid'. A law counts once. -/
mutual
def uptoBulk {H : Type} : DataW H → Nat
  | .lit (.string bytes) => bytes.length + 1
  | .lit _ => 1
  | .nil => 1
  | .ptr d => uptoBulk d + 1
  | .slice elems spare => uptoBulkAll elems + uptoBulkAll spare + 1
  | .agg parts => uptoBulkAll parts + 1
  | .iface _ d => uptoBulk d + 1
  | .map entries => uptoBulkEntries entries + 1
  | .held _ => 1
def uptoBulkAll {H : Type} : List (DataW H) → Nat
  | [] => 0
  | d :: r => uptoBulk d + uptoBulkAll r
def uptoBulkEntries {H : Type} : List (Lit × DataW H) → Nat
  | [] => 0
  | x :: r => uptoBulkEntry x + uptoBulkEntries r
def uptoBulkEntry {H : Type} : Lit × DataW H → Nat
  | (.string bytes, d) => bytes.length + uptoBulk d + 1
  | (_, d) => uptoBulk d + 1
 end
def uptoSmall : (H : Type) → List (DataW H) → Bool := fun _ ds => decide (uptoBulkAll ds ≤ 1048576)
def OpenSpec.upto (s : _root_.Go.ChangeSpec) : _root_.Go.OpenSpec := { _root_.Go.OpenSpec.ofChange s with cond := some uptoSmall }

/-- 'laws.FnNatRing', WHERE WHAT IT READS IS OF BULK AT MOST 1048576: true; the input reads as it did. -/
def fnNatRingUptoRow : OpenClaim := { program := "ytdlpkppkmfjdiaa", sum := "387c024bfe4258b68f56b11d19d30e32c874ea571b21749dd25ec9c2c7164523", func := "loop.example/g00382/laws.FnNatRing", spec := "fnNatRing", apart := false, narrowed := true }
def FnNatRingUptoSaid : Prop := fnNatRingUptoRow.holds Try.pinned (OpenSpec.upto fnNatRingSpec)

/-- 'laws.FnNatOrder', WHERE WHAT IT READS IS OF BULK AT MOST 1048576: true; the input reads as it did. -/
def fnNatOrderUptoRow : OpenClaim := { program := "ytdlpkppkmfjdiaa", sum := "387c024bfe4258b68f56b11d19d30e32c874ea571b21749dd25ec9c2c7164523", func := "loop.example/g00382/laws.FnNatOrder", spec := "fnNatOrder", apart := false, narrowed := true }
def FnNatOrderUptoSaid : Prop := fnNatOrderUptoRow.holds Try.pinned (OpenSpec.upto fnNatOrderSpec)

/-- 'laws.FnWholes', WHERE WHAT IT READS IS OF BULK AT MOST 1048576: true; the input reads as it did. -/
def fnWholesUptoRow : OpenClaim := { program := "ytdlpkppkmfjdiaa", sum := "387c024bfe4258b68f56b11d19d30e32c874ea571b21749dd25ec9c2c7164523", func := "loop.example/g00382/laws.FnWholes", spec := "fnWholes", apart := false, narrowed := true }
def FnWholesUptoSaid : Prop := fnWholesUptoRow.holds Try.pinned (OpenSpec.upto fnWholesSpec)

/-- 'laws.FnWholeDivs', WHERE WHAT IT READS IS OF BULK AT MOST 1048576: true; the input reads as it did. -/
def fnWholeDivsUptoRow : OpenClaim := { program := "ytdlpkppkmfjdiaa", sum := "387c024bfe4258b68f56b11d19d30e32c874ea571b21749dd25ec9c2c7164523", func := "loop.example/g00382/laws.FnWholeDivs", spec := "fnWholeDivs", apart := false, narrowed := true }
def FnWholeDivsUptoSaid : Prop := fnWholeDivsUptoRow.holds Try.pinned (OpenSpec.upto fnWholeDivsSpec)

/-- 'laws.FnExactNatInt', WHERE WHAT IT READS IS OF BULK AT MOST 1048576: true; the input reads as it did. -/
def fnExactNatIntUptoRow : OpenClaim := { program := "ytdlpkppkmfjdiaa", sum := "387c024bfe4258b68f56b11d19d30e32c874ea571b21749dd25ec9c2c7164523", func := "loop.example/g00382/laws.FnExactNatInt", spec := "fnExactNatInt", apart := false, narrowed := true }
def FnExactNatIntUptoSaid : Prop := fnExactNatIntUptoRow.holds Try.pinned (OpenSpec.upto fnExactNatIntSpec)

/-- 'laws.FnExactWholeDiv', WHERE WHAT IT READS IS OF BULK AT MOST 1048576: true; the input reads as it did. -/
def fnExactWholeDivUptoRow : OpenClaim := { program := "ytdlpkppkmfjdiaa", sum := "387c024bfe4258b68f56b11d19d30e32c874ea571b21749dd25ec9c2c7164523", func := "loop.example/g00382/laws.FnExactWholeDiv", spec := "fnExactWholeDiv", apart := false, narrowed := true }
def FnExactWholeDivUptoSaid : Prop := fnExactWholeDivUptoRow.holds Try.pinned (OpenSpec.upto fnExactWholeDivSpec)

/-- 'laws.FnExactFlCmp', WHERE WHAT IT READS IS OF BULK AT MOST 1048576: true; the input reads as it did. -/
def fnExactFlCmpUptoRow : OpenClaim := { program := "ytdlpkppkmfjdiaa", sum := "387c024bfe4258b68f56b11d19d30e32c874ea571b21749dd25ec9c2c7164523", func := "loop.example/g00382/laws.FnExactFlCmp", spec := "fnExactFlCmp", unfollowed := true, recurses := true, apart := false, narrowed := true }
def FnExactFlCmpUptoSaid : Prop := fnExactFlCmpUptoRow.holds Try.pinned (OpenSpec.upto fnExactFlCmpSpec)

end Rows
end Go.Proofs.Ytdlpkppkmfjdiaa
