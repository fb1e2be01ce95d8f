/-
  No cell of these rows narrows 'for every input' (looked for: loops, veiled, ifaces, maps, wideKeys, modest, calm, conditions, laid).
  DERIVED. THE GIVEN ROWS OF THIS SEAT. 12 by the template 'for every input the law returns true; each argument reads behind the call as it read before'; 0 by the template 'total and deterministic' (their statements: YtoijdclblcmpaaaTotals.lean).
  GIVEN WITH THE SEED: the statements are not yours to turn. If you find one false, say at which input.
  Laid BY PROGRAM, IN A SANDBOX (cutbox-rows.mjs): the forced cells as the released guide's own fill.sh prints them over the translation 31fe4958a79d129e… (all of the seat's roots in one cut). By AI agents, Wed Nov 11 2026. No macro, syntax, notation, axiom, sorry.
-/
import Derived.Test.YtoijdclblcmpaaaChecked
import GoSem.Claim
import GoSem.ClaimJoined
import GoSem.ClaimMapViews
import Derived.JoinedTies
import Derived.KernelRfl
namespace Go.Proofs.Ytoijdclblcmpaaa
/- THE CELL 'sum', in the pinned program and in every row, IS THE sha256 OF THE DUMP (.gsa) THAT YtoijdclblcmpaaaProg.lean LOADS. Nothing in Lean hashes anything: it is a label: what it is worth is what the hold of that sum in a sandbox is worth. -/
noncomputable def Try.pinned : Pinned := { name := "ytoijdclblcmpaaa", sum := "31fe4958a79d129e7d4a3c513c89a32ff57a52fe438773dacd4597fbfe3ad5f0", checked := Try.checked }
namespace Rows
def none {H : Type} : Left H := { results := [], args := [] }

/-- 'laws.FnNatRing': WHATEVER THE INPUT: true; the input reads as it did. -/
def fnNatRingSpec : ChangeSpec := { name := "fnNatRing", fn := fun _ => fun
  | [d] => { results := [.lit (.bool true)], args := [d] }
  | _ => none }
def fnNatRingRow : OpenClaim := { program := "ytoijdclblcmpaaa", sum := "31fe4958a79d129e7d4a3c513c89a32ff57a52fe438773dacd4597fbfe3ad5f0", func := "loop.example/g00382/laws.FnNatRing", spec := "fnNatRing", apart := false }
def FnNatRingSaid : Prop := fnNatRingRow.holds Try.pinned (OpenSpec.ofChange fnNatRingSpec)

/-- ITS FALSE NEIGHBOUR: 'it returns false'. Refute it at one input. -/
def fnNatRingWrong : ChangeSpec := { name := "fnNatRing", fn := fun _ => fun
  | [d] => { results := [.lit (.bool false)], args := [d] }
  | _ => none }
def FnNatRingWrongFalsely : Prop := fnNatRingRow.holds Try.pinned (OpenSpec.ofChange fnNatRingWrong)

/-- 'laws.FnNatTexts': WHATEVER THE INPUT: true; the input reads as it did. -/
def fnNatTextsSpec : ChangeSpec := { name := "fnNatTexts", fn := fun _ => fun
  | [d] => { results := [.lit (.bool true)], args := [d] }
  | _ => none }
def fnNatTextsRow : OpenClaim := { program := "ytoijdclblcmpaaa", sum := "31fe4958a79d129e7d4a3c513c89a32ff57a52fe438773dacd4597fbfe3ad5f0", func := "loop.example/g00382/laws.FnNatTexts", spec := "fnNatTexts", unfollowed := true, recurses := true, apart := false }
def FnNatTextsSaid : Prop := fnNatTextsRow.holds Try.pinned (OpenSpec.ofChange fnNatTextsSpec)

/-- ITS FALSE NEIGHBOUR: 'it returns false'. Refute it at one input. -/
def fnNatTextsWrong : ChangeSpec := { name := "fnNatTexts", fn := fun _ => fun
  | [d] => { results := [.lit (.bool false)], args := [d] }
  | _ => none }
def FnNatTextsWrongFalsely : Prop := fnNatTextsRow.holds Try.pinned (OpenSpec.ofChange fnNatTextsWrong)

/-- 'laws.FnWholes': WHATEVER THE INPUT: true; the input reads as it did. -/
def fnWholesSpec : ChangeSpec := { name := "fnWholes", fn := fun _ => fun
  | [d] => { results := [.lit (.bool true)], args := [d] }
  | _ => none }
def fnWholesRow : OpenClaim := { program := "ytoijdclblcmpaaa", sum := "31fe4958a79d129e7d4a3c513c89a32ff57a52fe438773dacd4597fbfe3ad5f0", func := "loop.example/g00382/laws.FnWholes", spec := "fnWholes", apart := false }
def FnWholesSaid : Prop := fnWholesRow.holds Try.pinned (OpenSpec.ofChange fnWholesSpec)

/-- ITS FALSE NEIGHBOUR: 'it returns false'. Refute it at one input. -/
def fnWholesWrong : ChangeSpec := { name := "fnWholes", fn := fun _ => fun
  | [d] => { results := [.lit (.bool false)], args := [d] }
  | _ => none }
def FnWholesWrongFalsely : Prop := fnWholesRow.holds Try.pinned (OpenSpec.ofChange fnWholesWrong)

/-- 'laws.FnWholeDivs': WHATEVER THE INPUT: true; the input reads as it did. -/
def fnWholeDivsSpec : ChangeSpec := { name := "fnWholeDivs", fn := fun _ => fun
  | [d] => { results := [.lit (.bool true)], args := [d] }
  | _ => none }
def fnWholeDivsRow : OpenClaim := { program := "ytoijdclblcmpaaa", sum := "31fe4958a79d129e7d4a3c513c89a32ff57a52fe438773dacd4597fbfe3ad5f0", func := "loop.example/g00382/laws.FnWholeDivs", spec := "fnWholeDivs", apart := false }
def FnWholeDivsSaid : Prop := fnWholeDivsRow.holds Try.pinned (OpenSpec.ofChange fnWholeDivsSpec)

/-- ITS FALSE NEIGHBOUR: 'it returns false'. Refute it at one input. -/
def fnWholeDivsWrong : ChangeSpec := { name := "fnWholeDivs", fn := fun _ => fun
  | [d] => { results := [.lit (.bool false)], args := [d] }
  | _ => none }
def FnWholeDivsWrongFalsely : Prop := fnWholeDivsRow.holds Try.pinned (OpenSpec.ofChange fnWholeDivsWrong)

/-- 'laws.FnDyTops': WHATEVER THE INPUT: true; the input reads as it did. -/
def fnDyTopsSpec : ChangeSpec := { name := "fnDyTops", fn := fun _ => fun
  | [d] => { results := [.lit (.bool true)], args := [d] }
  | _ => none }
def fnDyTopsRow : OpenClaim := { program := "ytoijdclblcmpaaa", sum := "31fe4958a79d129e7d4a3c513c89a32ff57a52fe438773dacd4597fbfe3ad5f0", func := "loop.example/g00382/laws.FnDyTops", spec := "fnDyTops", apart := false }
def FnDyTopsSaid : Prop := fnDyTopsRow.holds Try.pinned (OpenSpec.ofChange fnDyTopsSpec)

/-- ITS FALSE NEIGHBOUR: 'it returns false'. Refute it at one input. -/
def fnDyTopsWrong : ChangeSpec := { name := "fnDyTops", fn := fun _ => fun
  | [d] => { results := [.lit (.bool false)], args := [d] }
  | _ => none }
def FnDyTopsWrongFalsely : Prop := fnDyTopsRow.holds Try.pinned (OpenSpec.ofChange fnDyTopsWrong)

/-- 'laws.FnExactNatText': WHATEVER THE INPUT: true; the input reads as it did. -/
def fnExactNatTextSpec : ChangeSpec := { name := "fnExactNatText", fn := fun _ => fun
  | [d] => { results := [.lit (.bool true)], args := [d] }
  | _ => none }
def fnExactNatTextRow : OpenClaim := { program := "ytoijdclblcmpaaa", sum := "31fe4958a79d129e7d4a3c513c89a32ff57a52fe438773dacd4597fbfe3ad5f0", func := "loop.example/g00382/laws.FnExactNatText", spec := "fnExactNatText", unfollowed := true, recurses := true, apart := false }
def FnExactNatTextSaid : Prop := fnExactNatTextRow.holds Try.pinned (OpenSpec.ofChange fnExactNatTextSpec)

/-- ITS FALSE NEIGHBOUR: 'it returns false'. Refute it at one input. -/
def fnExactNatTextWrong : ChangeSpec := { name := "fnExactNatText", fn := fun _ => fun
  | [d] => { results := [.lit (.bool false)], args := [d] }
  | _ => none }
def FnExactNatTextWrongFalsely : Prop := fnExactNatTextRow.holds Try.pinned (OpenSpec.ofChange fnExactNatTextWrong)

/-- 'laws.FnExactWholeDiv': WHATEVER THE INPUT: true; the input reads as it did. -/
def fnExactWholeDivSpec : ChangeSpec := { name := "fnExactWholeDiv", fn := fun _ => fun
  | [d1, d2] => { results := [.lit (.bool true)], args := [d1, d2] }
  | _ => none }
def fnExactWholeDivRow : OpenClaim := { program := "ytoijdclblcmpaaa", sum := "31fe4958a79d129e7d4a3c513c89a32ff57a52fe438773dacd4597fbfe3ad5f0", func := "loop.example/g00382/laws.FnExactWholeDiv", spec := "fnExactWholeDiv", apart := false }
def FnExactWholeDivSaid : Prop := fnExactWholeDivRow.holds Try.pinned (OpenSpec.ofChange fnExactWholeDivSpec)

/-- ITS FALSE NEIGHBOUR: 'it returns false'. Refute it at one input. -/
def fnExactWholeDivWrong : ChangeSpec := { name := "fnExactWholeDiv", fn := fun _ => fun
  | [d1, d2] => { results := [.lit (.bool false)], args := [d1, d2] }
  | _ => none }
def FnExactWholeDivWrongFalsely : Prop := fnExactWholeDivRow.holds Try.pinned (OpenSpec.ofChange fnExactWholeDivWrong)

/-- 'laws.FnExactWholeText': WHATEVER THE INPUT: true; the input reads as it did. -/
def fnExactWholeTextSpec : ChangeSpec := { name := "fnExactWholeText", fn := fun _ => fun
  | [d] => { results := [.lit (.bool true)], args := [d] }
  | _ => none }
def fnExactWholeTextRow : OpenClaim := { program := "ytoijdclblcmpaaa", sum := "31fe4958a79d129e7d4a3c513c89a32ff57a52fe438773dacd4597fbfe3ad5f0", func := "loop.example/g00382/laws.FnExactWholeText", spec := "fnExactWholeText", unfollowed := true, recurses := true, apart := false }
def FnExactWholeTextSaid : Prop := fnExactWholeTextRow.holds Try.pinned (OpenSpec.ofChange fnExactWholeTextSpec)

/-- ITS FALSE NEIGHBOUR: 'it returns false'. Refute it at one input. -/
def fnExactWholeTextWrong : ChangeSpec := { name := "fnExactWholeText", fn := fun _ => fun
  | [d] => { results := [.lit (.bool false)], args := [d] }
  | _ => none }
def FnExactWholeTextWrongFalsely : Prop := fnExactWholeTextRow.holds Try.pinned (OpenSpec.ofChange fnExactWholeTextWrong)

/-- 'laws.FnExactDyOk': WHATEVER THE INPUT: true; the input reads as it did. -/
def fnExactDyOkSpec : ChangeSpec := { name := "fnExactDyOk", fn := fun _ => fun
  | [d] => { results := [.lit (.bool true)], args := [d] }
  | _ => none }
def fnExactDyOkRow : OpenClaim := { program := "ytoijdclblcmpaaa", sum := "31fe4958a79d129e7d4a3c513c89a32ff57a52fe438773dacd4597fbfe3ad5f0", func := "loop.example/g00382/laws.FnExactDyOk", spec := "fnExactDyOk", apart := false }
def FnExactDyOkSaid : Prop := fnExactDyOkRow.holds Try.pinned (OpenSpec.ofChange fnExactDyOkSpec)

/-- ITS FALSE NEIGHBOUR: 'it returns false'. Refute it at one input. -/
def fnExactDyOkWrong : ChangeSpec := { name := "fnExactDyOk", fn := fun _ => fun
  | [d] => { results := [.lit (.bool false)], args := [d] }
  | _ => none }
def FnExactDyOkWrongFalsely : Prop := fnExactDyOkRow.holds Try.pinned (OpenSpec.ofChange fnExactDyOkWrong)

/-- 'laws.FnExactDyCmp': WHATEVER THE INPUT: true; the input reads as it did. -/
def fnExactDyCmpSpec : ChangeSpec := { name := "fnExactDyCmp", fn := fun _ => fun
  | [d1, d2] => { results := [.lit (.bool true)], args := [d1, d2] }
  | _ => none }
def fnExactDyCmpRow : OpenClaim := { program := "ytoijdclblcmpaaa", sum := "31fe4958a79d129e7d4a3c513c89a32ff57a52fe438773dacd4597fbfe3ad5f0", func := "loop.example/g00382/laws.FnExactDyCmp", spec := "fnExactDyCmp", apart := false }
def FnExactDyCmpSaid : Prop := fnExactDyCmpRow.holds Try.pinned (OpenSpec.ofChange fnExactDyCmpSpec)

/-- ITS FALSE NEIGHBOUR: 'it returns false'. Refute it at one input. -/
def fnExactDyCmpWrong : ChangeSpec := { name := "fnExactDyCmp", fn := fun _ => fun
  | [d1, d2] => { results := [.lit (.bool false)], args := [d1, d2] }
  | _ => none }
def FnExactDyCmpWrongFalsely : Prop := fnExactDyCmpRow.holds Try.pinned (OpenSpec.ofChange fnExactDyCmpWrong)

/-- 'laws.FnExactDyTop': WHATEVER THE INPUT: true; the input reads as it did. -/
def fnExactDyTopSpec : ChangeSpec := { name := "fnExactDyTop", fn := fun _ => fun
  | [d] => { results := [.lit (.bool true)], args := [d] }
  | _ => none }
def fnExactDyTopRow : OpenClaim := { program := "ytoijdclblcmpaaa", sum := "31fe4958a79d129e7d4a3c513c89a32ff57a52fe438773dacd4597fbfe3ad5f0", func := "loop.example/g00382/laws.FnExactDyTop", spec := "fnExactDyTop", apart := false }
def FnExactDyTopSaid : Prop := fnExactDyTopRow.holds Try.pinned (OpenSpec.ofChange fnExactDyTopSpec)

/-- ITS FALSE NEIGHBOUR: 'it returns false'. Refute it at one input. -/
def fnExactDyTopWrong : ChangeSpec := { name := "fnExactDyTop", fn := fun _ => fun
  | [d] => { results := [.lit (.bool false)], args := [d] }
  | _ => none }
def FnExactDyTopWrongFalsely : Prop := fnExactDyTopRow.holds Try.pinned (OpenSpec.ofChange fnExactDyTopWrong)

/-- 'laws.FnExactDyText': WHATEVER THE INPUT: true; the input reads as it did. -/
def fnExactDyTextSpec : ChangeSpec := { name := "fnExactDyText", fn := fun _ => fun
  | [d] => { results := [.lit (.bool true)], args := [d] }
  | _ => none }
def fnExactDyTextRow : OpenClaim := { program := "ytoijdclblcmpaaa", sum := "31fe4958a79d129e7d4a3c513c89a32ff57a52fe438773dacd4597fbfe3ad5f0", func := "loop.example/g00382/laws.FnExactDyText", spec := "fnExactDyText", inPlace := ["slices.overlaps[byte]"], unfollowed := true, recurses := true, apart := false }
def FnExactDyTextSaid : Prop := fnExactDyTextRow.holds Try.pinned (OpenSpec.ofChange fnExactDyTextSpec)

/-- ITS FALSE NEIGHBOUR: 'it returns false'. Refute it at one input. -/
def fnExactDyTextWrong : ChangeSpec := { name := "fnExactDyText", fn := fun _ => fun
  | [d] => { results := [.lit (.bool false)], args := [d] }
  | _ => none }
def FnExactDyTextWrongFalsely : Prop := fnExactDyTextRow.holds Try.pinned (OpenSpec.ofChange fnExactDyTextWrong)

/- THE SECOND FORM. 'bulk': how many values and letters a reading holds, each counted each time it is reached (what is shared counts as often as it is met; a slice's spare places count too). A statement '..UptoSaid' is the law's where the arguments, and the package variables that the reading takes, are together of bulk at most 1048576: NARROWER than '..Said'. Prove '..Said' where nothing that the law and all that it calls make is longer than what came in: it says more and counts as full. Else prove '..UptoSaid'. A law counts once. -/
mutual
def uptoBulk {H : Type} : DataW H → Nat
  | .lit (.string bytes) => bytes.length + 1
  | .lit _ => 1
  | .nil => 1
  | .ptr d => uptoBulk d + 1
  | .slice elems spare => uptoBulkAll elems + uptoBulkAll spare + 1
  | .agg parts => uptoBulkAll parts + 1
  | .iface _ d => uptoBulk d + 1
  | .map entries => uptoBulkEntries entries + 1
  | .held _ => 1
def uptoBulkAll {H : Type} : List (DataW H) → Nat
  | [] => 0
  | d :: r => uptoBulk d + uptoBulkAll r
def uptoBulkEntries {H : Type} : List (Lit × DataW H) → Nat
  | [] => 0
  | x :: r => uptoBulkEntry x + uptoBulkEntries r
def uptoBulkEntry {H : Type} : Lit × DataW H → Nat
  | (.string bytes, d) => bytes.length + uptoBulk d + 1
  | (_, d) => uptoBulk d + 1
 end
def uptoSmall : (H : Type) → List (DataW H) → Bool := fun _ ds => decide (uptoBulkAll ds ≤ 1048576)
def OpenSpec.upto (s : _root_.Go.ChangeSpec) : _root_.Go.OpenSpec := { _root_.Go.OpenSpec.ofChange s with cond := some uptoSmall }

/-- 'laws.FnNatRing', WHERE WHAT IT READS IS OF BULK AT MOST 1048576: true; the input reads as it did. -/
def fnNatRingUptoRow : OpenClaim := { program := "ytoijdclblcmpaaa", sum := "31fe4958a79d129e7d4a3c513c89a32ff57a52fe438773dacd4597fbfe3ad5f0", func := "loop.example/g00382/laws.FnNatRing", spec := "fnNatRing", apart := false, narrowed := true }
def FnNatRingUptoSaid : Prop := fnNatRingUptoRow.holds Try.pinned (OpenSpec.upto fnNatRingSpec)

/-- 'laws.FnNatTexts', WHERE WHAT IT READS IS OF BULK AT MOST 1048576: true; the input reads as it did. -/
def fnNatTextsUptoRow : OpenClaim := { program := "ytoijdclblcmpaaa", sum := "31fe4958a79d129e7d4a3c513c89a32ff57a52fe438773dacd4597fbfe3ad5f0", func := "loop.example/g00382/laws.FnNatTexts", spec := "fnNatTexts", unfollowed := true, recurses := true, apart := false, narrowed := true }
def FnNatTextsUptoSaid : Prop := fnNatTextsUptoRow.holds Try.pinned (OpenSpec.upto fnNatTextsSpec)

/-- 'laws.FnWholes', WHERE WHAT IT READS IS OF BULK AT MOST 1048576: true; the input reads as it did. -/
def fnWholesUptoRow : OpenClaim := { program := "ytoijdclblcmpaaa", sum := "31fe4958a79d129e7d4a3c513c89a32ff57a52fe438773dacd4597fbfe3ad5f0", func := "loop.example/g00382/laws.FnWholes", spec := "fnWholes", apart := false, narrowed := true }
def FnWholesUptoSaid : Prop := fnWholesUptoRow.holds Try.pinned (OpenSpec.upto fnWholesSpec)

/-- 'laws.FnWholeDivs', WHERE WHAT IT READS IS OF BULK AT MOST 1048576: true; the input reads as it did. -/
def fnWholeDivsUptoRow : OpenClaim := { program := "ytoijdclblcmpaaa", sum := "31fe4958a79d129e7d4a3c513c89a32ff57a52fe438773dacd4597fbfe3ad5f0", func := "loop.example/g00382/laws.FnWholeDivs", spec := "fnWholeDivs", apart := false, narrowed := true }
def FnWholeDivsUptoSaid : Prop := fnWholeDivsUptoRow.holds Try.pinned (OpenSpec.upto fnWholeDivsSpec)

/-- 'laws.FnDyTops', WHERE WHAT IT READS IS OF BULK AT MOST 1048576: true; the input reads as it did. -/
def fnDyTopsUptoRow : OpenClaim := { program := "ytoijdclblcmpaaa", sum := "31fe4958a79d129e7d4a3c513c89a32ff57a52fe438773dacd4597fbfe3ad5f0", func := "loop.example/g00382/laws.FnDyTops", spec := "fnDyTops", apart := false, narrowed := true }
def FnDyTopsUptoSaid : Prop := fnDyTopsUptoRow.holds Try.pinned (OpenSpec.upto fnDyTopsSpec)

/-- 'laws.FnExactNatText', WHERE WHAT IT READS IS OF BULK AT MOST 1048576: true; the input reads as it did. -/
def fnExactNatTextUptoRow : OpenClaim := { program := "ytoijdclblcmpaaa", sum := "31fe4958a79d129e7d4a3c513c89a32ff57a52fe438773dacd4597fbfe3ad5f0", func := "loop.example/g00382/laws.FnExactNatText", spec := "fnExactNatText", unfollowed := true, recurses := true, apart := false, narrowed := true }
def FnExactNatTextUptoSaid : Prop := fnExactNatTextUptoRow.holds Try.pinned (OpenSpec.upto fnExactNatTextSpec)

/-- 'laws.FnExactWholeDiv', WHERE WHAT IT READS IS OF BULK AT MOST 1048576: true; the input reads as it did. -/
def fnExactWholeDivUptoRow : OpenClaim := { program := "ytoijdclblcmpaaa", sum := "31fe4958a79d129e7d4a3c513c89a32ff57a52fe438773dacd4597fbfe3ad5f0", func := "loop.example/g00382/laws.FnExactWholeDiv", spec := "fnExactWholeDiv", apart := false, narrowed := true }
def FnExactWholeDivUptoSaid : Prop := fnExactWholeDivUptoRow.holds Try.pinned (OpenSpec.upto fnExactWholeDivSpec)

/-- 'laws.FnExactWholeText', WHERE WHAT IT READS IS OF BULK AT MOST 1048576: true; the input reads as it did. -/
def fnExactWholeTextUptoRow : OpenClaim := { program := "ytoijdclblcmpaaa", sum := "31fe4958a79d129e7d4a3c513c89a32ff57a52fe438773dacd4597fbfe3ad5f0", func := "loop.example/g00382/laws.FnExactWholeText", spec := "fnExactWholeText", unfollowed := true, recurses := true, apart := false, narrowed := true }
def FnExactWholeTextUptoSaid : Prop := fnExactWholeTextUptoRow.holds Try.pinned (OpenSpec.upto fnExactWholeTextSpec)

/-- 'laws.FnExactDyOk', WHERE WHAT IT READS IS OF BULK AT MOST 1048576: true; the input reads as it did. -/
def fnExactDyOkUptoRow : OpenClaim := { program := "ytoijdclblcmpaaa", sum := "31fe4958a79d129e7d4a3c513c89a32ff57a52fe438773dacd4597fbfe3ad5f0", func := "loop.example/g00382/laws.FnExactDyOk", spec := "fnExactDyOk", apart := false, narrowed := true }
def FnExactDyOkUptoSaid : Prop := fnExactDyOkUptoRow.holds Try.pinned (OpenSpec.upto fnExactDyOkSpec)

/-- 'laws.FnExactDyCmp', WHERE WHAT IT READS IS OF BULK AT MOST 1048576: true; the input reads as it did. -/
def fnExactDyCmpUptoRow : OpenClaim := { program := "ytoijdclblcmpaaa", sum := "31fe4958a79d129e7d4a3c513c89a32ff57a52fe438773dacd4597fbfe3ad5f0", func := "loop.example/g00382/laws.FnExactDyCmp", spec := "fnExactDyCmp", apart := false, narrowed := true }
def FnExactDyCmpUptoSaid : Prop := fnExactDyCmpUptoRow.holds Try.pinned (OpenSpec.upto fnExactDyCmpSpec)

/-- 'laws.FnExactDyTop', WHERE WHAT IT READS IS OF BULK AT MOST 1048576: true; the input reads as it did. -/
def fnExactDyTopUptoRow : OpenClaim := { program := "ytoijdclblcmpaaa", sum := "31fe4958a79d129e7d4a3c513c89a32ff57a52fe438773dacd4597fbfe3ad5f0", func := "loop.example/g00382/laws.FnExactDyTop", spec := "fnExactDyTop", apart := false, narrowed := true }
def FnExactDyTopUptoSaid : Prop := fnExactDyTopUptoRow.holds Try.pinned (OpenSpec.upto fnExactDyTopSpec)

/-- 'laws.FnExactDyText', WHERE WHAT IT READS IS OF BULK AT MOST 1048576: true; the input reads as it did. -/
def fnExactDyTextUptoRow : OpenClaim := { program := "ytoijdclblcmpaaa", sum := "31fe4958a79d129e7d4a3c513c89a32ff57a52fe438773dacd4597fbfe3ad5f0", func := "loop.example/g00382/laws.FnExactDyText", spec := "fnExactDyText", inPlace := ["slices.overlaps[byte]"], unfollowed := true, recurses := true, apart := false, narrowed := true }
def FnExactDyTextUptoSaid : Prop := fnExactDyTextUptoRow.holds Try.pinned (OpenSpec.upto fnExactDyTextSpec)

end Rows
end Go.Proofs.Ytoijdclblcmpaaa
