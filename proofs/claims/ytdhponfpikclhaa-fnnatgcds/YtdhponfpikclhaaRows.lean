/-
  No cell of these rows narrows 'for every input' (looked for: loops, veiled, ifaces, maps, wideKeys, modest, calm, conditions, laid).
  DERIVED. THE GIVEN ROWS OF THIS SEAT. 21 by the template 'for every input the law returns true; each argument reads behind the call as it read before'; 0 by the template 'total and deterministic' (their statements: YtdhponfpikclhaaTotals.lean).
  GIVEN WITH THE SEED: the statements are not yours to turn. If you find one false, say at which input.
  Laid BY PROGRAM, IN A SANDBOX (cutbox-rows.mjs): the forced cells as the released guide's own fill.sh prints them over the translation f017955c495ddb90… (all of the seat's roots in one cut). By AI agents, Wed Nov 11 2026. No macro, syntax, notation, axiom, sorry.
-/
import Derived.Test.YtdhponfpikclhaaChecked
import GoSem.Claim
import GoSem.ClaimJoined
import GoSem.ClaimMapViews
import Derived.JoinedTies
import Derived.KernelRfl
namespace Go.Proofs.Ytdhponfpikclhaa
/- THE CELL 'sum', in the pinned program and in every row, IS THE sha256 OF THE DUMP (.gsa) THAT YtdhponfpikclhaaProg.lean LOADS. Nothing in Lean hashes anything: it is a label: what it is worth is what the hold of that sum in a sandbox is worth. -/
noncomputable def Try.pinned : Pinned := { name := "ytdhponfpikclhaa", sum := "f017955c495ddb902c649fbce3b0595cd312e70fd26e6167ef9337c127b431f9", checked := Try.checked }
namespace Rows
def none {H : Type} : Left H := { results := [], args := [] }

/-- 'laws.FnNatRing': WHATEVER THE INPUT: true; the input reads as it did. -/
def fnNatRingSpec : ChangeSpec := { name := "fnNatRing", fn := fun _ => fun
  | [d] => { results := [.lit (.bool true)], args := [d] }
  | _ => none }
def fnNatRingRow : OpenClaim := { program := "ytdhponfpikclhaa", sum := "f017955c495ddb902c649fbce3b0595cd312e70fd26e6167ef9337c127b431f9", func := "loop.example/g00382/laws.FnNatRing", spec := "fnNatRing", apart := false }
def FnNatRingSaid : Prop := fnNatRingRow.holds Try.pinned (OpenSpec.ofChange fnNatRingSpec)

/-- ITS FALSE NEIGHBOUR: 'it returns false'. Refute it at one input. -/
def fnNatRingWrong : ChangeSpec := { name := "fnNatRing", fn := fun _ => fun
  | [d] => { results := [.lit (.bool false)], args := [d] }
  | _ => none }
def FnNatRingWrongFalsely : Prop := fnNatRingRow.holds Try.pinned (OpenSpec.ofChange fnNatRingWrong)

/-- 'laws.FnNatDivs': WHATEVER THE INPUT: true; the input reads as it did. -/
def fnNatDivsSpec : ChangeSpec := { name := "fnNatDivs", fn := fun _ => fun
  | [d] => { results := [.lit (.bool true)], args := [d] }
  | _ => none }
def fnNatDivsRow : OpenClaim := { program := "ytdhponfpikclhaa", sum := "f017955c495ddb902c649fbce3b0595cd312e70fd26e6167ef9337c127b431f9", func := "loop.example/g00382/laws.FnNatDivs", spec := "fnNatDivs", apart := false }
def FnNatDivsSaid : Prop := fnNatDivsRow.holds Try.pinned (OpenSpec.ofChange fnNatDivsSpec)

/-- ITS FALSE NEIGHBOUR: 'it returns false'. Refute it at one input. -/
def fnNatDivsWrong : ChangeSpec := { name := "fnNatDivs", fn := fun _ => fun
  | [d] => { results := [.lit (.bool false)], args := [d] }
  | _ => none }
def FnNatDivsWrongFalsely : Prop := fnNatDivsRow.holds Try.pinned (OpenSpec.ofChange fnNatDivsWrong)

/-- 'laws.FnNatRoots': WHATEVER THE INPUT: true; the input reads as it did. -/
def fnNatRootsSpec : ChangeSpec := { name := "fnNatRoots", fn := fun _ => fun
  | [d] => { results := [.lit (.bool true)], args := [d] }
  | _ => none }
def fnNatRootsRow : OpenClaim := { program := "ytdhponfpikclhaa", sum := "f017955c495ddb902c649fbce3b0595cd312e70fd26e6167ef9337c127b431f9", func := "loop.example/g00382/laws.FnNatRoots", spec := "fnNatRoots", apart := false }
def FnNatRootsSaid : Prop := fnNatRootsRow.holds Try.pinned (OpenSpec.ofChange fnNatRootsSpec)

/-- ITS FALSE NEIGHBOUR: 'it returns false'. Refute it at one input. -/
def fnNatRootsWrong : ChangeSpec := { name := "fnNatRoots", fn := fun _ => fun
  | [d] => { results := [.lit (.bool false)], args := [d] }
  | _ => none }
def FnNatRootsWrongFalsely : Prop := fnNatRootsRow.holds Try.pinned (OpenSpec.ofChange fnNatRootsWrong)

/-- 'laws.FnNatGcds': WHATEVER THE INPUT: true; the input reads as it did. -/
def fnNatGcdsSpec : ChangeSpec := { name := "fnNatGcds", fn := fun _ => fun
  | [d] => { results := [.lit (.bool true)], args := [d] }
  | _ => none }
def fnNatGcdsRow : OpenClaim := { program := "ytdhponfpikclhaa", sum := "f017955c495ddb902c649fbce3b0595cd312e70fd26e6167ef9337c127b431f9", func := "loop.example/g00382/laws.FnNatGcds", spec := "fnNatGcds", apart := false }
def FnNatGcdsSaid : Prop := fnNatGcdsRow.holds Try.pinned (OpenSpec.ofChange fnNatGcdsSpec)

/-- ITS FALSE NEIGHBOUR: 'it returns false'. Refute it at one input. -/
def fnNatGcdsWrong : ChangeSpec := { name := "fnNatGcds", fn := fun _ => fun
  | [d] => { results := [.lit (.bool false)], args := [d] }
  | _ => none }
def FnNatGcdsWrongFalsely : Prop := fnNatGcdsRow.holds Try.pinned (OpenSpec.ofChange fnNatGcdsWrong)

/-- 'laws.FnNatTexts': WHATEVER THE INPUT: true; the input reads as it did. -/
def fnNatTextsSpec : ChangeSpec := { name := "fnNatTexts", fn := fun _ => fun
  | [d] => { results := [.lit (.bool true)], args := [d] }
  | _ => none }
def fnNatTextsRow : OpenClaim := { program := "ytdhponfpikclhaa", sum := "f017955c495ddb902c649fbce3b0595cd312e70fd26e6167ef9337c127b431f9", func := "loop.example/g00382/laws.FnNatTexts", spec := "fnNatTexts", unfollowed := true, recurses := true, apart := false }
def FnNatTextsSaid : Prop := fnNatTextsRow.holds Try.pinned (OpenSpec.ofChange fnNatTextsSpec)

/-- ITS FALSE NEIGHBOUR: 'it returns false'. Refute it at one input. -/
def fnNatTextsWrong : ChangeSpec := { name := "fnNatTexts", fn := fun _ => fun
  | [d] => { results := [.lit (.bool false)], args := [d] }
  | _ => none }
def FnNatTextsWrongFalsely : Prop := fnNatTextsRow.holds Try.pinned (OpenSpec.ofChange fnNatTextsWrong)

/-- 'laws.FnWholes': WHATEVER THE INPUT: true; the input reads as it did. -/
def fnWholesSpec : ChangeSpec := { name := "fnWholes", fn := fun _ => fun
  | [d] => { results := [.lit (.bool true)], args := [d] }
  | _ => none }
def fnWholesRow : OpenClaim := { program := "ytdhponfpikclhaa", sum := "f017955c495ddb902c649fbce3b0595cd312e70fd26e6167ef9337c127b431f9", func := "loop.example/g00382/laws.FnWholes", spec := "fnWholes", apart := false }
def FnWholesSaid : Prop := fnWholesRow.holds Try.pinned (OpenSpec.ofChange fnWholesSpec)

/-- ITS FALSE NEIGHBOUR: 'it returns false'. Refute it at one input. -/
def fnWholesWrong : ChangeSpec := { name := "fnWholes", fn := fun _ => fun
  | [d] => { results := [.lit (.bool false)], args := [d] }
  | _ => none }
def FnWholesWrongFalsely : Prop := fnWholesRow.holds Try.pinned (OpenSpec.ofChange fnWholesWrong)

/-- 'laws.FnWholeDivs': WHATEVER THE INPUT: true; the input reads as it did. -/
def fnWholeDivsSpec : ChangeSpec := { name := "fnWholeDivs", fn := fun _ => fun
  | [d] => { results := [.lit (.bool true)], args := [d] }
  | _ => none }
def fnWholeDivsRow : OpenClaim := { program := "ytdhponfpikclhaa", sum := "f017955c495ddb902c649fbce3b0595cd312e70fd26e6167ef9337c127b431f9", func := "loop.example/g00382/laws.FnWholeDivs", spec := "fnWholeDivs", apart := false }
def FnWholeDivsSaid : Prop := fnWholeDivsRow.holds Try.pinned (OpenSpec.ofChange fnWholeDivsSpec)

/-- ITS FALSE NEIGHBOUR: 'it returns false'. Refute it at one input. -/
def fnWholeDivsWrong : ChangeSpec := { name := "fnWholeDivs", fn := fun _ => fun
  | [d] => { results := [.lit (.bool false)], args := [d] }
  | _ => none }
def FnWholeDivsWrongFalsely : Prop := fnWholeDivsRow.holds Try.pinned (OpenSpec.ofChange fnWholeDivsWrong)

/-- 'laws.FnExactNatDiv': WHATEVER THE INPUT: true; the input reads as it did. -/
def fnExactNatDivSpec : ChangeSpec := { name := "fnExactNatDiv", fn := fun _ => fun
  | [d1, d2] => { results := [.lit (.bool true)], args := [d1, d2] }
  | _ => none }
def fnExactNatDivRow : OpenClaim := { program := "ytdhponfpikclhaa", sum := "f017955c495ddb902c649fbce3b0595cd312e70fd26e6167ef9337c127b431f9", func := "loop.example/g00382/laws.FnExactNatDiv", spec := "fnExactNatDiv", apart := false }
def FnExactNatDivSaid : Prop := fnExactNatDivRow.holds Try.pinned (OpenSpec.ofChange fnExactNatDivSpec)

/-- ITS FALSE NEIGHBOUR: 'it returns false'. Refute it at one input. -/
def fnExactNatDivWrong : ChangeSpec := { name := "fnExactNatDiv", fn := fun _ => fun
  | [d1, d2] => { results := [.lit (.bool false)], args := [d1, d2] }
  | _ => none }
def FnExactNatDivWrongFalsely : Prop := fnExactNatDivRow.holds Try.pinned (OpenSpec.ofChange fnExactNatDivWrong)

/-- 'laws.FnExactNatGcd': WHATEVER THE INPUT: true; the input reads as it did. -/
def fnExactNatGcdSpec : ChangeSpec := { name := "fnExactNatGcd", fn := fun _ => fun
  | [d1, d2] => { results := [.lit (.bool true)], args := [d1, d2] }
  | _ => none }
def fnExactNatGcdRow : OpenClaim := { program := "ytdhponfpikclhaa", sum := "f017955c495ddb902c649fbce3b0595cd312e70fd26e6167ef9337c127b431f9", func := "loop.example/g00382/laws.FnExactNatGcd", spec := "fnExactNatGcd", apart := false }
def FnExactNatGcdSaid : Prop := fnExactNatGcdRow.holds Try.pinned (OpenSpec.ofChange fnExactNatGcdSpec)

/-- ITS FALSE NEIGHBOUR: 'it returns false'. Refute it at one input. -/
def fnExactNatGcdWrong : ChangeSpec := { name := "fnExactNatGcd", fn := fun _ => fun
  | [d1, d2] => { results := [.lit (.bool false)], args := [d1, d2] }
  | _ => none }
def FnExactNatGcdWrongFalsely : Prop := fnExactNatGcdRow.holds Try.pinned (OpenSpec.ofChange fnExactNatGcdWrong)

/-- 'laws.FnExactNatRoot': WHATEVER THE INPUT: true; the input reads as it did. -/
def fnExactNatRootSpec : ChangeSpec := { name := "fnExactNatRoot", fn := fun _ => fun
  | [d] => { results := [.lit (.bool true)], args := [d] }
  | _ => none }
def fnExactNatRootRow : OpenClaim := { program := "ytdhponfpikclhaa", sum := "f017955c495ddb902c649fbce3b0595cd312e70fd26e6167ef9337c127b431f9", func := "loop.example/g00382/laws.FnExactNatRoot", spec := "fnExactNatRoot", apart := false }
def FnExactNatRootSaid : Prop := fnExactNatRootRow.holds Try.pinned (OpenSpec.ofChange fnExactNatRootSpec)

/-- ITS FALSE NEIGHBOUR: 'it returns false'. Refute it at one input. -/
def fnExactNatRootWrong : ChangeSpec := { name := "fnExactNatRoot", fn := fun _ => fun
  | [d] => { results := [.lit (.bool false)], args := [d] }
  | _ => none }
def FnExactNatRootWrongFalsely : Prop := fnExactNatRootRow.holds Try.pinned (OpenSpec.ofChange fnExactNatRootWrong)

/-- 'laws.FnExactNatText': WHATEVER THE INPUT: true; the input reads as it did. -/
def fnExactNatTextSpec : ChangeSpec := { name := "fnExactNatText", fn := fun _ => fun
  | [d] => { results := [.lit (.bool true)], args := [d] }
  | _ => none }
def fnExactNatTextRow : OpenClaim := { program := "ytdhponfpikclhaa", sum := "f017955c495ddb902c649fbce3b0595cd312e70fd26e6167ef9337c127b431f9", func := "loop.example/g00382/laws.FnExactNatText", spec := "fnExactNatText", unfollowed := true, recurses := true, apart := false }
def FnExactNatTextSaid : Prop := fnExactNatTextRow.holds Try.pinned (OpenSpec.ofChange fnExactNatTextSpec)

/-- ITS FALSE NEIGHBOUR: 'it returns false'. Refute it at one input. -/
def fnExactNatTextWrong : ChangeSpec := { name := "fnExactNatText", fn := fun _ => fun
  | [d] => { results := [.lit (.bool false)], args := [d] }
  | _ => none }
def FnExactNatTextWrongFalsely : Prop := fnExactNatTextRow.holds Try.pinned (OpenSpec.ofChange fnExactNatTextWrong)

/-- 'laws.FnExactNatRead': WHATEVER THE INPUT: true; the input reads as it did. -/
def fnExactNatReadSpec : ChangeSpec := { name := "fnExactNatRead", fn := fun _ => fun
  | [d] => { results := [.lit (.bool true)], args := [d] }
  | _ => none }
def fnExactNatReadRow : OpenClaim := { program := "ytdhponfpikclhaa", sum := "f017955c495ddb902c649fbce3b0595cd312e70fd26e6167ef9337c127b431f9", func := "loop.example/g00382/laws.FnExactNatRead", spec := "fnExactNatRead", apart := false }
def FnExactNatReadSaid : Prop := fnExactNatReadRow.holds Try.pinned (OpenSpec.ofChange fnExactNatReadSpec)

/-- ITS FALSE NEIGHBOUR: 'it returns false'. Refute it at one input. -/
def fnExactNatReadWrong : ChangeSpec := { name := "fnExactNatRead", fn := fun _ => fun
  | [d] => { results := [.lit (.bool false)], args := [d] }
  | _ => none }
def FnExactNatReadWrongFalsely : Prop := fnExactNatReadRow.holds Try.pinned (OpenSpec.ofChange fnExactNatReadWrong)

/-- 'laws.FnExactWholeOk': WHATEVER THE INPUT: true; the input reads as it did. -/
def fnExactWholeOkSpec : ChangeSpec := { name := "fnExactWholeOk", fn := fun _ => fun
  | [d] => { results := [.lit (.bool true)], args := [d] }
  | _ => none }
def fnExactWholeOkRow : OpenClaim := { program := "ytdhponfpikclhaa", sum := "f017955c495ddb902c649fbce3b0595cd312e70fd26e6167ef9337c127b431f9", func := "loop.example/g00382/laws.FnExactWholeOk", spec := "fnExactWholeOk", apart := false }
def FnExactWholeOkSaid : Prop := fnExactWholeOkRow.holds Try.pinned (OpenSpec.ofChange fnExactWholeOkSpec)

/-- ITS FALSE NEIGHBOUR: 'it returns false'. Refute it at one input. -/
def fnExactWholeOkWrong : ChangeSpec := { name := "fnExactWholeOk", fn := fun _ => fun
  | [d] => { results := [.lit (.bool false)], args := [d] }
  | _ => none }
def FnExactWholeOkWrongFalsely : Prop := fnExactWholeOkRow.holds Try.pinned (OpenSpec.ofChange fnExactWholeOkWrong)

/-- 'laws.FnExactWholeOf': WHATEVER THE INPUT: true; the input reads as it did. -/
def fnExactWholeOfSpec : ChangeSpec := { name := "fnExactWholeOf", fn := fun _ => fun
  | [d] => { results := [.lit (.bool true)], args := [d] }
  | _ => none }
def fnExactWholeOfRow : OpenClaim := { program := "ytdhponfpikclhaa", sum := "f017955c495ddb902c649fbce3b0595cd312e70fd26e6167ef9337c127b431f9", func := "loop.example/g00382/laws.FnExactWholeOf", spec := "fnExactWholeOf", apart := false }
def FnExactWholeOfSaid : Prop := fnExactWholeOfRow.holds Try.pinned (OpenSpec.ofChange fnExactWholeOfSpec)

/-- ITS FALSE NEIGHBOUR: 'it returns false'. Refute it at one input. -/
def fnExactWholeOfWrong : ChangeSpec := { name := "fnExactWholeOf", fn := fun _ => fun
  | [d] => { results := [.lit (.bool false)], args := [d] }
  | _ => none }
def FnExactWholeOfWrongFalsely : Prop := fnExactWholeOfRow.holds Try.pinned (OpenSpec.ofChange fnExactWholeOfWrong)

/-- 'laws.FnExactWholeCmp': WHATEVER THE INPUT: true; the input reads as it did. -/
def fnExactWholeCmpSpec : ChangeSpec := { name := "fnExactWholeCmp", fn := fun _ => fun
  | [d1, d2] => { results := [.lit (.bool true)], args := [d1, d2] }
  | _ => none }
def fnExactWholeCmpRow : OpenClaim := { program := "ytdhponfpikclhaa", sum := "f017955c495ddb902c649fbce3b0595cd312e70fd26e6167ef9337c127b431f9", func := "loop.example/g00382/laws.FnExactWholeCmp", spec := "fnExactWholeCmp", apart := false }
def FnExactWholeCmpSaid : Prop := fnExactWholeCmpRow.holds Try.pinned (OpenSpec.ofChange fnExactWholeCmpSpec)

/-- ITS FALSE NEIGHBOUR: 'it returns false'. Refute it at one input. -/
def fnExactWholeCmpWrong : ChangeSpec := { name := "fnExactWholeCmp", fn := fun _ => fun
  | [d1, d2] => { results := [.lit (.bool false)], args := [d1, d2] }
  | _ => none }
def FnExactWholeCmpWrongFalsely : Prop := fnExactWholeCmpRow.holds Try.pinned (OpenSpec.ofChange fnExactWholeCmpWrong)

/-- 'laws.FnExactWholeNeg': WHATEVER THE INPUT: true; the input reads as it did. -/
def fnExactWholeNegSpec : ChangeSpec := { name := "fnExactWholeNeg", fn := fun _ => fun
  | [d] => { results := [.lit (.bool true)], args := [d] }
  | _ => none }
def fnExactWholeNegRow : OpenClaim := { program := "ytdhponfpikclhaa", sum := "f017955c495ddb902c649fbce3b0595cd312e70fd26e6167ef9337c127b431f9", func := "loop.example/g00382/laws.FnExactWholeNeg", spec := "fnExactWholeNeg", apart := false }
def FnExactWholeNegSaid : Prop := fnExactWholeNegRow.holds Try.pinned (OpenSpec.ofChange fnExactWholeNegSpec)

/-- ITS FALSE NEIGHBOUR: 'it returns false'. Refute it at one input. -/
def fnExactWholeNegWrong : ChangeSpec := { name := "fnExactWholeNeg", fn := fun _ => fun
  | [d] => { results := [.lit (.bool false)], args := [d] }
  | _ => none }
def FnExactWholeNegWrongFalsely : Prop := fnExactWholeNegRow.holds Try.pinned (OpenSpec.ofChange fnExactWholeNegWrong)

/-- 'laws.FnExactWholeAdd': WHATEVER THE INPUT: true; the input reads as it did. -/
def fnExactWholeAddSpec : ChangeSpec := { name := "fnExactWholeAdd", fn := fun _ => fun
  | [d1, d2] => { results := [.lit (.bool true)], args := [d1, d2] }
  | _ => none }
def fnExactWholeAddRow : OpenClaim := { program := "ytdhponfpikclhaa", sum := "f017955c495ddb902c649fbce3b0595cd312e70fd26e6167ef9337c127b431f9", func := "loop.example/g00382/laws.FnExactWholeAdd", spec := "fnExactWholeAdd", apart := false }
def FnExactWholeAddSaid : Prop := fnExactWholeAddRow.holds Try.pinned (OpenSpec.ofChange fnExactWholeAddSpec)

/-- ITS FALSE NEIGHBOUR: 'it returns false'. Refute it at one input. -/
def fnExactWholeAddWrong : ChangeSpec := { name := "fnExactWholeAdd", fn := fun _ => fun
  | [d1, d2] => { results := [.lit (.bool false)], args := [d1, d2] }
  | _ => none }
def FnExactWholeAddWrongFalsely : Prop := fnExactWholeAddRow.holds Try.pinned (OpenSpec.ofChange fnExactWholeAddWrong)

/-- 'laws.FnExactWholeSub': WHATEVER THE INPUT: true; the input reads as it did. -/
def fnExactWholeSubSpec : ChangeSpec := { name := "fnExactWholeSub", fn := fun _ => fun
  | [d1, d2] => { results := [.lit (.bool true)], args := [d1, d2] }
  | _ => none }
def fnExactWholeSubRow : OpenClaim := { program := "ytdhponfpikclhaa", sum := "f017955c495ddb902c649fbce3b0595cd312e70fd26e6167ef9337c127b431f9", func := "loop.example/g00382/laws.FnExactWholeSub", spec := "fnExactWholeSub", apart := false }
def FnExactWholeSubSaid : Prop := fnExactWholeSubRow.holds Try.pinned (OpenSpec.ofChange fnExactWholeSubSpec)

/-- ITS FALSE NEIGHBOUR: 'it returns false'. Refute it at one input. -/
def fnExactWholeSubWrong : ChangeSpec := { name := "fnExactWholeSub", fn := fun _ => fun
  | [d1, d2] => { results := [.lit (.bool false)], args := [d1, d2] }
  | _ => none }
def FnExactWholeSubWrongFalsely : Prop := fnExactWholeSubRow.holds Try.pinned (OpenSpec.ofChange fnExactWholeSubWrong)

/-- 'laws.FnExactWholeMul': WHATEVER THE INPUT: true; the input reads as it did. -/
def fnExactWholeMulSpec : ChangeSpec := { name := "fnExactWholeMul", fn := fun _ => fun
  | [d1, d2] => { results := [.lit (.bool true)], args := [d1, d2] }
  | _ => none }
def fnExactWholeMulRow : OpenClaim := { program := "ytdhponfpikclhaa", sum := "f017955c495ddb902c649fbce3b0595cd312e70fd26e6167ef9337c127b431f9", func := "loop.example/g00382/laws.FnExactWholeMul", spec := "fnExactWholeMul", apart := false }
def FnExactWholeMulSaid : Prop := fnExactWholeMulRow.holds Try.pinned (OpenSpec.ofChange fnExactWholeMulSpec)

/-- ITS FALSE NEIGHBOUR: 'it returns false'. Refute it at one input. -/
def fnExactWholeMulWrong : ChangeSpec := { name := "fnExactWholeMul", fn := fun _ => fun
  | [d1, d2] => { results := [.lit (.bool false)], args := [d1, d2] }
  | _ => none }
def FnExactWholeMulWrongFalsely : Prop := fnExactWholeMulRow.holds Try.pinned (OpenSpec.ofChange fnExactWholeMulWrong)

/-- 'laws.FnExactWholeDiv': WHATEVER THE INPUT: true; the input reads as it did. -/
def fnExactWholeDivSpec : ChangeSpec := { name := "fnExactWholeDiv", fn := fun _ => fun
  | [d1, d2] => { results := [.lit (.bool true)], args := [d1, d2] }
  | _ => none }
def fnExactWholeDivRow : OpenClaim := { program := "ytdhponfpikclhaa", sum := "f017955c495ddb902c649fbce3b0595cd312e70fd26e6167ef9337c127b431f9", func := "loop.example/g00382/laws.FnExactWholeDiv", spec := "fnExactWholeDiv", apart := false }
def FnExactWholeDivSaid : Prop := fnExactWholeDivRow.holds Try.pinned (OpenSpec.ofChange fnExactWholeDivSpec)

/-- ITS FALSE NEIGHBOUR: 'it returns false'. Refute it at one input. -/
def fnExactWholeDivWrong : ChangeSpec := { name := "fnExactWholeDiv", fn := fun _ => fun
  | [d1, d2] => { results := [.lit (.bool false)], args := [d1, d2] }
  | _ => none }
def FnExactWholeDivWrongFalsely : Prop := fnExactWholeDivRow.holds Try.pinned (OpenSpec.ofChange fnExactWholeDivWrong)

/-- 'laws.FnExactWholeText': WHATEVER THE INPUT: true; the input reads as it did. -/
def fnExactWholeTextSpec : ChangeSpec := { name := "fnExactWholeText", fn := fun _ => fun
  | [d] => { results := [.lit (.bool true)], args := [d] }
  | _ => none }
def fnExactWholeTextRow : OpenClaim := { program := "ytdhponfpikclhaa", sum := "f017955c495ddb902c649fbce3b0595cd312e70fd26e6167ef9337c127b431f9", func := "loop.example/g00382/laws.FnExactWholeText", spec := "fnExactWholeText", unfollowed := true, recurses := true, apart := false }
def FnExactWholeTextSaid : Prop := fnExactWholeTextRow.holds Try.pinned (OpenSpec.ofChange fnExactWholeTextSpec)

/-- ITS FALSE NEIGHBOUR: 'it returns false'. Refute it at one input. -/
def fnExactWholeTextWrong : ChangeSpec := { name := "fnExactWholeText", fn := fun _ => fun
  | [d] => { results := [.lit (.bool false)], args := [d] }
  | _ => none }
def FnExactWholeTextWrongFalsely : Prop := fnExactWholeTextRow.holds Try.pinned (OpenSpec.ofChange fnExactWholeTextWrong)

/- THE SECOND FORM. 'bulk': how many values and letters a reading holds, each counted each time it is reached (what is shared counts as often as it is met; a slice's spare places count too). A statement '..UptoSaid' is the law's where the arguments, and the package variables that the reading takes, are together of bulk at most 1048576: NARROWER than '..Said'. Prove '..Said' where nothing that the law and all that it calls make is longer than what came in: it says more and counts as full. Else prove '..UptoSaid'. A law counts once. -/
mutual
def uptoBulk {H : Type} : DataW H → Nat
  | .lit (.string bytes) => bytes.length + 1
  | .lit _ => 1
  | .nil => 1
  | .ptr d => uptoBulk d + 1
  | .slice elems spare => uptoBulkAll elems + uptoBulkAll spare + 1
  | .agg parts => uptoBulkAll parts + 1
  | .iface _ d => uptoBulk d + 1
  | .map entries => uptoBulkEntries entries + 1
  | .held _ => 1
def uptoBulkAll {H : Type} : List (DataW H) → Nat
  | [] => 0
  | d :: r => uptoBulk d + uptoBulkAll r
def uptoBulkEntries {H : Type} : List (Lit × DataW H) → Nat
  | [] => 0
  | x :: r => uptoBulkEntry x + uptoBulkEntries r
def uptoBulkEntry {H : Type} : Lit × DataW H → Nat
  | (.string bytes, d) => bytes.length + uptoBulk d + 1
  | (_, d) => uptoBulk d + 1
 end
def uptoSmall : (H : Type) → List (DataW H) → Bool := fun _ ds => decide (uptoBulkAll ds ≤ 1048576)
def OpenSpec.upto (s : _root_.Go.ChangeSpec) : _root_.Go.OpenSpec := { _root_.Go.OpenSpec.ofChange s with cond := some uptoSmall }

/-- 'laws.FnNatRing', WHERE WHAT IT READS IS OF BULK AT MOST 1048576: true; the input reads as it did. -/
def fnNatRingUptoRow : OpenClaim := { program := "ytdhponfpikclhaa", sum := "f017955c495ddb902c649fbce3b0595cd312e70fd26e6167ef9337c127b431f9", func := "loop.example/g00382/laws.FnNatRing", spec := "fnNatRing", apart := false, narrowed := true }
def FnNatRingUptoSaid : Prop := fnNatRingUptoRow.holds Try.pinned (OpenSpec.upto fnNatRingSpec)

/-- 'laws.FnNatDivs', WHERE WHAT IT READS IS OF BULK AT MOST 1048576: true; the input reads as it did. -/
def fnNatDivsUptoRow : OpenClaim := { program := "ytdhponfpikclhaa", sum := "f017955c495ddb902c649fbce3b0595cd312e70fd26e6167ef9337c127b431f9", func := "loop.example/g00382/laws.FnNatDivs", spec := "fnNatDivs", apart := false, narrowed := true }
def FnNatDivsUptoSaid : Prop := fnNatDivsUptoRow.holds Try.pinned (OpenSpec.upto fnNatDivsSpec)

/-- 'laws.FnNatRoots', WHERE WHAT IT READS IS OF BULK AT MOST 1048576: true; the input reads as it did. -/
def fnNatRootsUptoRow : OpenClaim := { program := "ytdhponfpikclhaa", sum := "f017955c495ddb902c649fbce3b0595cd312e70fd26e6167ef9337c127b431f9", func := "loop.example/g00382/laws.FnNatRoots", spec := "fnNatRoots", apart := false, narrowed := true }
def FnNatRootsUptoSaid : Prop := fnNatRootsUptoRow.holds Try.pinned (OpenSpec.upto fnNatRootsSpec)

/-- 'laws.FnNatGcds', WHERE WHAT IT READS IS OF BULK AT MOST 1048576: true; the input reads as it did. -/
def fnNatGcdsUptoRow : OpenClaim := { program := "ytdhponfpikclhaa", sum := "f017955c495ddb902c649fbce3b0595cd312e70fd26e6167ef9337c127b431f9", func := "loop.example/g00382/laws.FnNatGcds", spec := "fnNatGcds", apart := false, narrowed := true }
def FnNatGcdsUptoSaid : Prop := fnNatGcdsUptoRow.holds Try.pinned (OpenSpec.upto fnNatGcdsSpec)

/-- 'laws.FnNatTexts', WHERE WHAT IT READS IS OF BULK AT MOST 1048576: true; the input reads as it did. -/
def fnNatTextsUptoRow : OpenClaim := { program := "ytdhponfpikclhaa", sum := "f017955c495ddb902c649fbce3b0595cd312e70fd26e6167ef9337c127b431f9", func := "loop.example/g00382/laws.FnNatTexts", spec := "fnNatTexts", unfollowed := true, recurses := true, apart := false, narrowed := true }
def FnNatTextsUptoSaid : Prop := fnNatTextsUptoRow.holds Try.pinned (OpenSpec.upto fnNatTextsSpec)

/-- 'laws.FnWholes', WHERE WHAT IT READS IS OF BULK AT MOST 1048576: true; the input reads as it did. -/
def fnWholesUptoRow : OpenClaim := { program := "ytdhponfpikclhaa", sum := "f017955c495ddb902c649fbce3b0595cd312e70fd26e6167ef9337c127b431f9", func := "loop.example/g00382/laws.FnWholes", spec := "fnWholes", apart := false, narrowed := true }
def FnWholesUptoSaid : Prop := fnWholesUptoRow.holds Try.pinned (OpenSpec.upto fnWholesSpec)

/-- 'laws.FnWholeDivs', WHERE WHAT IT READS IS OF BULK AT MOST 1048576: true; the input reads as it did. -/
def fnWholeDivsUptoRow : OpenClaim := { program := "ytdhponfpikclhaa", sum := "f017955c495ddb902c649fbce3b0595cd312e70fd26e6167ef9337c127b431f9", func := "loop.example/g00382/laws.FnWholeDivs", spec := "fnWholeDivs", apart := false, narrowed := true }
def FnWholeDivsUptoSaid : Prop := fnWholeDivsUptoRow.holds Try.pinned (OpenSpec.upto fnWholeDivsSpec)

/-- 'laws.FnExactNatDiv', WHERE WHAT IT READS IS OF BULK AT MOST 1048576: true; the input reads as it did. -/
def fnExactNatDivUptoRow : OpenClaim := { program := "ytdhponfpikclhaa", sum := "f017955c495ddb902c649fbce3b0595cd312e70fd26e6167ef9337c127b431f9", func := "loop.example/g00382/laws.FnExactNatDiv", spec := "fnExactNatDiv", apart := false, narrowed := true }
def FnExactNatDivUptoSaid : Prop := fnExactNatDivUptoRow.holds Try.pinned (OpenSpec.upto fnExactNatDivSpec)

/-- 'laws.FnExactNatGcd', WHERE WHAT IT READS IS OF BULK AT MOST 1048576: true; the input reads as it did. -/
def fnExactNatGcdUptoRow : OpenClaim := { program := "ytdhponfpikclhaa", sum := "f017955c495ddb902c649fbce3b0595cd312e70fd26e6167ef9337c127b431f9", func := "loop.example/g00382/laws.FnExactNatGcd", spec := "fnExactNatGcd", apart := false, narrowed := true }
def FnExactNatGcdUptoSaid : Prop := fnExactNatGcdUptoRow.holds Try.pinned (OpenSpec.upto fnExactNatGcdSpec)

/-- 'laws.FnExactNatRoot', WHERE WHAT IT READS IS OF BULK AT MOST 1048576: true; the input reads as it did. -/
def fnExactNatRootUptoRow : OpenClaim := { program := "ytdhponfpikclhaa", sum := "f017955c495ddb902c649fbce3b0595cd312e70fd26e6167ef9337c127b431f9", func := "loop.example/g00382/laws.FnExactNatRoot", spec := "fnExactNatRoot", apart := false, narrowed := true }
def FnExactNatRootUptoSaid : Prop := fnExactNatRootUptoRow.holds Try.pinned (OpenSpec.upto fnExactNatRootSpec)

/-- 'laws.FnExactNatText', WHERE WHAT IT READS IS OF BULK AT MOST 1048576: true; the input reads as it did. -/
def fnExactNatTextUptoRow : OpenClaim := { program := "ytdhponfpikclhaa", sum := "f017955c495ddb902c649fbce3b0595cd312e70fd26e6167ef9337c127b431f9", func := "loop.example/g00382/laws.FnExactNatText", spec := "fnExactNatText", unfollowed := true, recurses := true, apart := false, narrowed := true }
def FnExactNatTextUptoSaid : Prop := fnExactNatTextUptoRow.holds Try.pinned (OpenSpec.upto fnExactNatTextSpec)

/-- 'laws.FnExactNatRead', WHERE WHAT IT READS IS OF BULK AT MOST 1048576: true; the input reads as it did. -/
def fnExactNatReadUptoRow : OpenClaim := { program := "ytdhponfpikclhaa", sum := "f017955c495ddb902c649fbce3b0595cd312e70fd26e6167ef9337c127b431f9", func := "loop.example/g00382/laws.FnExactNatRead", spec := "fnExactNatRead", apart := false, narrowed := true }
def FnExactNatReadUptoSaid : Prop := fnExactNatReadUptoRow.holds Try.pinned (OpenSpec.upto fnExactNatReadSpec)

/-- 'laws.FnExactWholeOk', WHERE WHAT IT READS IS OF BULK AT MOST 1048576: true; the input reads as it did. -/
def fnExactWholeOkUptoRow : OpenClaim := { program := "ytdhponfpikclhaa", sum := "f017955c495ddb902c649fbce3b0595cd312e70fd26e6167ef9337c127b431f9", func := "loop.example/g00382/laws.FnExactWholeOk", spec := "fnExactWholeOk", apart := false, narrowed := true }
def FnExactWholeOkUptoSaid : Prop := fnExactWholeOkUptoRow.holds Try.pinned (OpenSpec.upto fnExactWholeOkSpec)

/-- 'laws.FnExactWholeOf', WHERE WHAT IT READS IS OF BULK AT MOST 1048576: true; the input reads as it did. -/
def fnExactWholeOfUptoRow : OpenClaim := { program := "ytdhponfpikclhaa", sum := "f017955c495ddb902c649fbce3b0595cd312e70fd26e6167ef9337c127b431f9", func := "loop.example/g00382/laws.FnExactWholeOf", spec := "fnExactWholeOf", apart := false, narrowed := true }
def FnExactWholeOfUptoSaid : Prop := fnExactWholeOfUptoRow.holds Try.pinned (OpenSpec.upto fnExactWholeOfSpec)

/-- 'laws.FnExactWholeCmp', WHERE WHAT IT READS IS OF BULK AT MOST 1048576: true; the input reads as it did. -/
def fnExactWholeCmpUptoRow : OpenClaim := { program := "ytdhponfpikclhaa", sum := "f017955c495ddb902c649fbce3b0595cd312e70fd26e6167ef9337c127b431f9", func := "loop.example/g00382/laws.FnExactWholeCmp", spec := "fnExactWholeCmp", apart := false, narrowed := true }
def FnExactWholeCmpUptoSaid : Prop := fnExactWholeCmpUptoRow.holds Try.pinned (OpenSpec.upto fnExactWholeCmpSpec)

/-- 'laws.FnExactWholeNeg', WHERE WHAT IT READS IS OF BULK AT MOST 1048576: true; the input reads as it did. -/
def fnExactWholeNegUptoRow : OpenClaim := { program := "ytdhponfpikclhaa", sum := "f017955c495ddb902c649fbce3b0595cd312e70fd26e6167ef9337c127b431f9", func := "loop.example/g00382/laws.FnExactWholeNeg", spec := "fnExactWholeNeg", apart := false, narrowed := true }
def FnExactWholeNegUptoSaid : Prop := fnExactWholeNegUptoRow.holds Try.pinned (OpenSpec.upto fnExactWholeNegSpec)

/-- 'laws.FnExactWholeAdd', WHERE WHAT IT READS IS OF BULK AT MOST 1048576: true; the input reads as it did. -/
def fnExactWholeAddUptoRow : OpenClaim := { program := "ytdhponfpikclhaa", sum := "f017955c495ddb902c649fbce3b0595cd312e70fd26e6167ef9337c127b431f9", func := "loop.example/g00382/laws.FnExactWholeAdd", spec := "fnExactWholeAdd", apart := false, narrowed := true }
def FnExactWholeAddUptoSaid : Prop := fnExactWholeAddUptoRow.holds Try.pinned (OpenSpec.upto fnExactWholeAddSpec)

/-- 'laws.FnExactWholeSub', WHERE WHAT IT READS IS OF BULK AT MOST 1048576: true; the input reads as it did. -/
def fnExactWholeSubUptoRow : OpenClaim := { program := "ytdhponfpikclhaa", sum := "f017955c495ddb902c649fbce3b0595cd312e70fd26e6167ef9337c127b431f9", func := "loop.example/g00382/laws.FnExactWholeSub", spec := "fnExactWholeSub", apart := false, narrowed := true }
def FnExactWholeSubUptoSaid : Prop := fnExactWholeSubUptoRow.holds Try.pinned (OpenSpec.upto fnExactWholeSubSpec)

/-- 'laws.FnExactWholeMul', WHERE WHAT IT READS IS OF BULK AT MOST 1048576: true; the input reads as it did. -/
def fnExactWholeMulUptoRow : OpenClaim := { program := "ytdhponfpikclhaa", sum := "f017955c495ddb902c649fbce3b0595cd312e70fd26e6167ef9337c127b431f9", func := "loop.example/g00382/laws.FnExactWholeMul", spec := "fnExactWholeMul", apart := false, narrowed := true }
def FnExactWholeMulUptoSaid : Prop := fnExactWholeMulUptoRow.holds Try.pinned (OpenSpec.upto fnExactWholeMulSpec)

/-- 'laws.FnExactWholeDiv', WHERE WHAT IT READS IS OF BULK AT MOST 1048576: true; the input reads as it did. -/
def fnExactWholeDivUptoRow : OpenClaim := { program := "ytdhponfpikclhaa", sum := "f017955c495ddb902c649fbce3b0595cd312e70fd26e6167ef9337c127b431f9", func := "loop.example/g00382/laws.FnExactWholeDiv", spec := "fnExactWholeDiv", apart := false, narrowed := true }
def FnExactWholeDivUptoSaid : Prop := fnExactWholeDivUptoRow.holds Try.pinned (OpenSpec.upto fnExactWholeDivSpec)

/-- 'laws.FnExactWholeText', WHERE WHAT IT READS IS OF BULK AT MOST 1048576: true; the input reads as it did. -/
def fnExactWholeTextUptoRow : OpenClaim := { program := "ytdhponfpikclhaa", sum := "f017955c495ddb902c649fbce3b0595cd312e70fd26e6167ef9337c127b431f9", func := "loop.example/g00382/laws.FnExactWholeText", spec := "fnExactWholeText", unfollowed := true, recurses := true, apart := false, narrowed := true }
def FnExactWholeTextUptoSaid : Prop := fnExactWholeTextUptoRow.holds Try.pinned (OpenSpec.upto fnExactWholeTextSpec)

end Rows
end Go.Proofs.Ytdhponfpikclhaa
