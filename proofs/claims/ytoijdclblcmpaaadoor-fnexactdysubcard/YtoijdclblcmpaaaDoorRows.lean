/-
  NARROWER THAN 'FOR EVERY INPUT', by the rows' own cells (each row's printed sentence says how): FnPlains: laid · FnNatShifts: laid · FnWholeTexts: laid · FnDyRing: laid · FnDyOrder: laid · FnExactNatTrail: laid · FnExactWholeRead: laid · FnExactDyOf: laid · FnExactDyNeg: laid · FnExactDyAdd: laid · FnExactDySub: laid · FnExactDyMul: laid · FnExactDyShift: laid · FnExactDyRound: laid · FnExactDyDiv: laid · FnExactDyRoot: laid.
  DERIVED. THE GIVEN ROWS OF THIS SEAT. 16 by the template 'for every input the law returns true; each argument reads behind the call as it read before'; 0 by the template 'total and deterministic' (their statements: YtoijdclblcmpaaaDoorTotals.lean).
  GIVEN WITH THE SEED: the statements are not yours to turn. If you find one false, say at which input.
  Laid BY PROGRAM, IN A SANDBOX (cutbox-rows.mjs): the forced cells as the released guide's own fill.sh prints them over the translation cb2eb4cf6c152a83… (all of the seat's roots in one cut). By AI agents, Wed Nov 11 2026. No macro, syntax, notation, axiom, sorry.
-/
import Derived.Test.YtoijdclblcmpaaaDoorChecked
import GoSem.Claim
import GoSem.ClaimJoined
import GoSem.ClaimMapViews
import Derived.JoinedTies
import Derived.KernelRfl
namespace Go.Proofs.YtoijdclblcmpaaaDoor
/- THE CELL 'sum', in the pinned program and in every row, IS THE sha256 OF THE DUMP (.gsa) THAT YtoijdclblcmpaaaDoorProg.lean LOADS. Nothing in Lean hashes anything: it is a label: what it is worth is what the hold of that sum in a sandbox is worth. -/
noncomputable def Tryd.pinned : Pinned := { name := "ytoijdclblcmpaaadoor", sum := "cb2eb4cf6c152a835073f965f9d8579ef4b9df1debf4f40a56ce21d83ad7cf78", checked := Tryd.checked }
namespace Rows
def none {H : Type} : Left H := { results := [], args := [] }

/- WHAT THE LISTED PACKAGE-LEVEL VARIABLES READ AS WHEN THE CALL BEGINS. Each datum BY PROGRAM (the guide's laid-datum.mjs) off the statement by which the dump's own 'gosem.cut.vars' lays the variable. In a bare row this is a premise. The card (YtoijdclblcmpaaaDoorCards.lean) ties it to the program's text. -/
def laid_loop_example_g00382_impl_noughts {H : Type} : DataW H := .agg [.lit (.int .i64 48), .lit (.int .i64 1632), .lit (.int .i64 1776), .lit (.int .i64 2406), .lit (.int .i64 65296)]
def laid_math_bits_deBruijn32tab {H : Type} : DataW H := .agg [.lit (.int .u8 0), .lit (.int .u8 1), .lit (.int .u8 28), .lit (.int .u8 2), .lit (.int .u8 29), .lit (.int .u8 14), .lit (.int .u8 24), .lit (.int .u8 3), .lit (.int .u8 30), .lit (.int .u8 22), .lit (.int .u8 20), .lit (.int .u8 15), .lit (.int .u8 25), .lit (.int .u8 17), .lit (.int .u8 4), .lit (.int .u8 8), .lit (.int .u8 31), .lit (.int .u8 27), .lit (.int .u8 13), .lit (.int .u8 23), .lit (.int .u8 21), .lit (.int .u8 19), .lit (.int .u8 16), .lit (.int .u8 7), .lit (.int .u8 26), .lit (.int .u8 12), .lit (.int .u8 18), .lit (.int .u8 6), .lit (.int .u8 11), .lit (.int .u8 5), .lit (.int .u8 10), .lit (.int .u8 9)]
def laid_math_bits_deBruijn64tab {H : Type} : DataW H := .agg [.lit (.int .u8 0), .lit (.int .u8 1), .lit (.int .u8 56), .lit (.int .u8 2), .lit (.int .u8 57), .lit (.int .u8 49), .lit (.int .u8 28), .lit (.int .u8 3), .lit (.int .u8 61), .lit (.int .u8 58), .lit (.int .u8 42), .lit (.int .u8 50), .lit (.int .u8 38), .lit (.int .u8 29), .lit (.int .u8 17), .lit (.int .u8 4), .lit (.int .u8 62), .lit (.int .u8 47), .lit (.int .u8 59), .lit (.int .u8 36), .lit (.int .u8 45), .lit (.int .u8 43), .lit (.int .u8 51), .lit (.int .u8 22), .lit (.int .u8 53), .lit (.int .u8 39), .lit (.int .u8 33), .lit (.int .u8 30), .lit (.int .u8 24), .lit (.int .u8 18), .lit (.int .u8 12), .lit (.int .u8 5), .lit (.int .u8 63), .lit (.int .u8 55), .lit (.int .u8 48), .lit (.int .u8 27), .lit (.int .u8 60), .lit (.int .u8 41), .lit (.int .u8 37), .lit (.int .u8 16), .lit (.int .u8 46), .lit (.int .u8 35), .lit (.int .u8 44), .lit (.int .u8 21), .lit (.int .u8 52), .lit (.int .u8 32), .lit (.int .u8 23), .lit (.int .u8 11), .lit (.int .u8 54), .lit (.int .u8 26), .lit (.int .u8 40), .lit (.int .u8 15), .lit (.int .u8 34), .lit (.int .u8 20), .lit (.int .u8 31), .lit (.int .u8 10), .lit (.int .u8 25), .lit (.int .u8 14), .lit (.int .u8 19), .lit (.int .u8 9), .lit (.int .u8 13), .lit (.int .u8 8), .lit (.int .u8 7), .lit (.int .u8 6)]

/-- 'laws.FnPlains': WHATEVER THE INPUT: true; the input reads as it did. -/
def fnPlainsSpec : ChangeSpec := { name := "fnPlains", vars := ["loop.example/g00382/impl.noughts"], fn := fun _ => fun
  | [d, g1] => { results := [.lit (.bool true)], args := [d], vars := [g1] }
  | _ => none }
def fnPlainsRow : OpenClaim := { program := "ytoijdclblcmpaaadoor", sum := "cb2eb4cf6c152a835073f965f9d8579ef4b9df1debf4f40a56ce21d83ad7cf78", func := "loop.example/g00382/laws.FnPlains", spec := "fnPlains", named := ["loop.example/g00382/impl.noughts"], apart := false, laid := [("loop.example/g00382/impl.noughts", laid_loop_example_g00382_impl_noughts)] }
def FnPlainsSaid : Prop := fnPlainsRow.holds Tryd.pinned (OpenSpec.ofChange fnPlainsSpec)

/-- ITS FALSE NEIGHBOUR: 'it returns false'. Refute it at one input. -/
def fnPlainsWrong : ChangeSpec := { name := "fnPlains", vars := ["loop.example/g00382/impl.noughts"], fn := fun _ => fun
  | [d, g1] => { results := [.lit (.bool false)], args := [d], vars := [g1] }
  | _ => none }
def FnPlainsWrongFalsely : Prop := fnPlainsRow.holds Tryd.pinned (OpenSpec.ofChange fnPlainsWrong)

/-- 'laws.FnNatShifts': WHATEVER THE INPUT: true; the input reads as it did. -/
def fnNatShiftsSpec : ChangeSpec := { name := "fnNatShifts", fn := fun _ => fun
  | [d] => { results := [.lit (.bool true)], args := [d] }
  | _ => none }
def fnNatShiftsRow : OpenClaim := { program := "ytoijdclblcmpaaadoor", sum := "cb2eb4cf6c152a835073f965f9d8579ef4b9df1debf4f40a56ce21d83ad7cf78", func := "loop.example/g00382/laws.FnNatShifts", spec := "fnNatShifts", unfollowed := true, recurses := true, named := ["math/bits.deBruijn32tab", "math/bits.deBruijn64tab"], apart := false, laid := [("math/bits.deBruijn32tab", laid_math_bits_deBruijn32tab), ("math/bits.deBruijn64tab", laid_math_bits_deBruijn64tab)] }
def FnNatShiftsSaid : Prop := fnNatShiftsRow.holds Tryd.pinned (OpenSpec.ofChange fnNatShiftsSpec)

/-- ITS FALSE NEIGHBOUR: 'it returns false'. Refute it at one input. -/
def fnNatShiftsWrong : ChangeSpec := { name := "fnNatShifts", fn := fun _ => fun
  | [d] => { results := [.lit (.bool false)], args := [d] }
  | _ => none }
def FnNatShiftsWrongFalsely : Prop := fnNatShiftsRow.holds Tryd.pinned (OpenSpec.ofChange fnNatShiftsWrong)

/-- 'laws.FnWholeTexts': WHATEVER THE INPUT: true; the input reads as it did. -/
def fnWholeTextsSpec : ChangeSpec := { name := "fnWholeTexts", vars := ["loop.example/g00382/impl.noughts"], fn := fun _ => fun
  | [d, g1] => { results := [.lit (.bool true)], args := [d], vars := [g1] }
  | _ => none }
def fnWholeTextsRow : OpenClaim := { program := "ytoijdclblcmpaaadoor", sum := "cb2eb4cf6c152a835073f965f9d8579ef4b9df1debf4f40a56ce21d83ad7cf78", func := "loop.example/g00382/laws.FnWholeTexts", spec := "fnWholeTexts", unfollowed := true, recurses := true, named := ["loop.example/g00382/impl.noughts"], apart := false, laid := [("loop.example/g00382/impl.noughts", laid_loop_example_g00382_impl_noughts)] }
def FnWholeTextsSaid : Prop := fnWholeTextsRow.holds Tryd.pinned (OpenSpec.ofChange fnWholeTextsSpec)

/-- ITS FALSE NEIGHBOUR: 'it returns false'. Refute it at one input. -/
def fnWholeTextsWrong : ChangeSpec := { name := "fnWholeTexts", vars := ["loop.example/g00382/impl.noughts"], fn := fun _ => fun
  | [d, g1] => { results := [.lit (.bool false)], args := [d], vars := [g1] }
  | _ => none }
def FnWholeTextsWrongFalsely : Prop := fnWholeTextsRow.holds Tryd.pinned (OpenSpec.ofChange fnWholeTextsWrong)

/-- 'laws.FnDyRing': WHATEVER THE INPUT: true; the input reads as it did. -/
def fnDyRingSpec : ChangeSpec := { name := "fnDyRing", fn := fun _ => fun
  | [d] => { results := [.lit (.bool true)], args := [d] }
  | _ => none }
def fnDyRingRow : OpenClaim := { program := "ytoijdclblcmpaaadoor", sum := "cb2eb4cf6c152a835073f965f9d8579ef4b9df1debf4f40a56ce21d83ad7cf78", func := "loop.example/g00382/laws.FnDyRing", spec := "fnDyRing", named := ["math/bits.deBruijn32tab", "math/bits.deBruijn64tab"], apart := false, laid := [("math/bits.deBruijn32tab", laid_math_bits_deBruijn32tab), ("math/bits.deBruijn64tab", laid_math_bits_deBruijn64tab)] }
def FnDyRingSaid : Prop := fnDyRingRow.holds Tryd.pinned (OpenSpec.ofChange fnDyRingSpec)

/-- ITS FALSE NEIGHBOUR: 'it returns false'. Refute it at one input. -/
def fnDyRingWrong : ChangeSpec := { name := "fnDyRing", fn := fun _ => fun
  | [d] => { results := [.lit (.bool false)], args := [d] }
  | _ => none }
def FnDyRingWrongFalsely : Prop := fnDyRingRow.holds Tryd.pinned (OpenSpec.ofChange fnDyRingWrong)

/-- 'laws.FnDyOrder': WHATEVER THE INPUT: true; the input reads as it did. -/
def fnDyOrderSpec : ChangeSpec := { name := "fnDyOrder", fn := fun _ => fun
  | [d] => { results := [.lit (.bool true)], args := [d] }
  | _ => none }
def fnDyOrderRow : OpenClaim := { program := "ytoijdclblcmpaaadoor", sum := "cb2eb4cf6c152a835073f965f9d8579ef4b9df1debf4f40a56ce21d83ad7cf78", func := "loop.example/g00382/laws.FnDyOrder", spec := "fnDyOrder", named := ["math/bits.deBruijn32tab", "math/bits.deBruijn64tab"], apart := false, laid := [("math/bits.deBruijn32tab", laid_math_bits_deBruijn32tab), ("math/bits.deBruijn64tab", laid_math_bits_deBruijn64tab)] }
def FnDyOrderSaid : Prop := fnDyOrderRow.holds Tryd.pinned (OpenSpec.ofChange fnDyOrderSpec)

/-- ITS FALSE NEIGHBOUR: 'it returns false'. Refute it at one input. -/
def fnDyOrderWrong : ChangeSpec := { name := "fnDyOrder", fn := fun _ => fun
  | [d] => { results := [.lit (.bool false)], args := [d] }
  | _ => none }
def FnDyOrderWrongFalsely : Prop := fnDyOrderRow.holds Tryd.pinned (OpenSpec.ofChange fnDyOrderWrong)

/-- 'laws.FnExactNatTrail': WHATEVER THE INPUT: true; the input reads as it did. -/
def fnExactNatTrailSpec : ChangeSpec := { name := "fnExactNatTrail", fn := fun _ => fun
  | [d] => { results := [.lit (.bool true)], args := [d] }
  | _ => none }
def fnExactNatTrailRow : OpenClaim := { program := "ytoijdclblcmpaaadoor", sum := "cb2eb4cf6c152a835073f965f9d8579ef4b9df1debf4f40a56ce21d83ad7cf78", func := "loop.example/g00382/laws.FnExactNatTrail", spec := "fnExactNatTrail", named := ["math/bits.deBruijn32tab", "math/bits.deBruijn64tab"], apart := false, laid := [("math/bits.deBruijn32tab", laid_math_bits_deBruijn32tab), ("math/bits.deBruijn64tab", laid_math_bits_deBruijn64tab)] }
def FnExactNatTrailSaid : Prop := fnExactNatTrailRow.holds Tryd.pinned (OpenSpec.ofChange fnExactNatTrailSpec)

/-- ITS FALSE NEIGHBOUR: 'it returns false'. Refute it at one input. -/
def fnExactNatTrailWrong : ChangeSpec := { name := "fnExactNatTrail", fn := fun _ => fun
  | [d] => { results := [.lit (.bool false)], args := [d] }
  | _ => none }
def FnExactNatTrailWrongFalsely : Prop := fnExactNatTrailRow.holds Tryd.pinned (OpenSpec.ofChange fnExactNatTrailWrong)

/-- 'laws.FnExactWholeRead': WHATEVER THE INPUT: true; the input reads as it did. -/
def fnExactWholeReadSpec : ChangeSpec := { name := "fnExactWholeRead", vars := ["loop.example/g00382/impl.noughts"], fn := fun _ => fun
  | [d, g1] => { results := [.lit (.bool true)], args := [d], vars := [g1] }
  | _ => none }
def fnExactWholeReadRow : OpenClaim := { program := "ytoijdclblcmpaaadoor", sum := "cb2eb4cf6c152a835073f965f9d8579ef4b9df1debf4f40a56ce21d83ad7cf78", func := "loop.example/g00382/laws.FnExactWholeRead", spec := "fnExactWholeRead", named := ["loop.example/g00382/impl.noughts"], apart := false, laid := [("loop.example/g00382/impl.noughts", laid_loop_example_g00382_impl_noughts)] }
def FnExactWholeReadSaid : Prop := fnExactWholeReadRow.holds Tryd.pinned (OpenSpec.ofChange fnExactWholeReadSpec)

/-- ITS FALSE NEIGHBOUR: 'it returns false'. Refute it at one input. -/
def fnExactWholeReadWrong : ChangeSpec := { name := "fnExactWholeRead", vars := ["loop.example/g00382/impl.noughts"], fn := fun _ => fun
  | [d, g1] => { results := [.lit (.bool false)], args := [d], vars := [g1] }
  | _ => none }
def FnExactWholeReadWrongFalsely : Prop := fnExactWholeReadRow.holds Tryd.pinned (OpenSpec.ofChange fnExactWholeReadWrong)

/-- 'laws.FnExactDyOf': WHATEVER THE INPUT: true; the input reads as it did. -/
def fnExactDyOfSpec : ChangeSpec := { name := "fnExactDyOf", fn := fun _ => fun
  | [d1, d2] => { results := [.lit (.bool true)], args := [d1, d2] }
  | _ => none }
def fnExactDyOfRow : OpenClaim := { program := "ytoijdclblcmpaaadoor", sum := "cb2eb4cf6c152a835073f965f9d8579ef4b9df1debf4f40a56ce21d83ad7cf78", func := "loop.example/g00382/laws.FnExactDyOf", spec := "fnExactDyOf", named := ["math/bits.deBruijn32tab", "math/bits.deBruijn64tab"], apart := false, laid := [("math/bits.deBruijn32tab", laid_math_bits_deBruijn32tab), ("math/bits.deBruijn64tab", laid_math_bits_deBruijn64tab)] }
def FnExactDyOfSaid : Prop := fnExactDyOfRow.holds Tryd.pinned (OpenSpec.ofChange fnExactDyOfSpec)

/-- ITS FALSE NEIGHBOUR: 'it returns false'. Refute it at one input. -/
def fnExactDyOfWrong : ChangeSpec := { name := "fnExactDyOf", fn := fun _ => fun
  | [d1, d2] => { results := [.lit (.bool false)], args := [d1, d2] }
  | _ => none }
def FnExactDyOfWrongFalsely : Prop := fnExactDyOfRow.holds Tryd.pinned (OpenSpec.ofChange fnExactDyOfWrong)

/-- 'laws.FnExactDyNeg': WHATEVER THE INPUT: true; the input reads as it did. -/
def fnExactDyNegSpec : ChangeSpec := { name := "fnExactDyNeg", fn := fun _ => fun
  | [d] => { results := [.lit (.bool true)], args := [d] }
  | _ => none }
def fnExactDyNegRow : OpenClaim := { program := "ytoijdclblcmpaaadoor", sum := "cb2eb4cf6c152a835073f965f9d8579ef4b9df1debf4f40a56ce21d83ad7cf78", func := "loop.example/g00382/laws.FnExactDyNeg", spec := "fnExactDyNeg", named := ["math/bits.deBruijn32tab", "math/bits.deBruijn64tab"], apart := false, laid := [("math/bits.deBruijn32tab", laid_math_bits_deBruijn32tab), ("math/bits.deBruijn64tab", laid_math_bits_deBruijn64tab)] }
def FnExactDyNegSaid : Prop := fnExactDyNegRow.holds Tryd.pinned (OpenSpec.ofChange fnExactDyNegSpec)

/-- ITS FALSE NEIGHBOUR: 'it returns false'. Refute it at one input. -/
def fnExactDyNegWrong : ChangeSpec := { name := "fnExactDyNeg", fn := fun _ => fun
  | [d] => { results := [.lit (.bool false)], args := [d] }
  | _ => none }
def FnExactDyNegWrongFalsely : Prop := fnExactDyNegRow.holds Tryd.pinned (OpenSpec.ofChange fnExactDyNegWrong)

/-- 'laws.FnExactDyAdd': WHATEVER THE INPUT: true; the input reads as it did. -/
def fnExactDyAddSpec : ChangeSpec := { name := "fnExactDyAdd", fn := fun _ => fun
  | [d1, d2] => { results := [.lit (.bool true)], args := [d1, d2] }
  | _ => none }
def fnExactDyAddRow : OpenClaim := { program := "ytoijdclblcmpaaadoor", sum := "cb2eb4cf6c152a835073f965f9d8579ef4b9df1debf4f40a56ce21d83ad7cf78", func := "loop.example/g00382/laws.FnExactDyAdd", spec := "fnExactDyAdd", named := ["math/bits.deBruijn32tab", "math/bits.deBruijn64tab"], apart := false, laid := [("math/bits.deBruijn32tab", laid_math_bits_deBruijn32tab), ("math/bits.deBruijn64tab", laid_math_bits_deBruijn64tab)] }
def FnExactDyAddSaid : Prop := fnExactDyAddRow.holds Tryd.pinned (OpenSpec.ofChange fnExactDyAddSpec)

/-- ITS FALSE NEIGHBOUR: 'it returns false'. Refute it at one input. -/
def fnExactDyAddWrong : ChangeSpec := { name := "fnExactDyAdd", fn := fun _ => fun
  | [d1, d2] => { results := [.lit (.bool false)], args := [d1, d2] }
  | _ => none }
def FnExactDyAddWrongFalsely : Prop := fnExactDyAddRow.holds Tryd.pinned (OpenSpec.ofChange fnExactDyAddWrong)

/-- 'laws.FnExactDySub': WHATEVER THE INPUT: true; the input reads as it did. -/
def fnExactDySubSpec : ChangeSpec := { name := "fnExactDySub", fn := fun _ => fun
  | [d1, d2] => { results := [.lit (.bool true)], args := [d1, d2] }
  | _ => none }
def fnExactDySubRow : OpenClaim := { program := "ytoijdclblcmpaaadoor", sum := "cb2eb4cf6c152a835073f965f9d8579ef4b9df1debf4f40a56ce21d83ad7cf78", func := "loop.example/g00382/laws.FnExactDySub", spec := "fnExactDySub", named := ["math/bits.deBruijn32tab", "math/bits.deBruijn64tab"], apart := false, laid := [("math/bits.deBruijn32tab", laid_math_bits_deBruijn32tab), ("math/bits.deBruijn64tab", laid_math_bits_deBruijn64tab)] }
def FnExactDySubSaid : Prop := fnExactDySubRow.holds Tryd.pinned (OpenSpec.ofChange fnExactDySubSpec)

/-- ITS FALSE NEIGHBOUR: 'it returns false'. Refute it at one input. -/
def fnExactDySubWrong : ChangeSpec := { name := "fnExactDySub", fn := fun _ => fun
  | [d1, d2] => { results := [.lit (.bool false)], args := [d1, d2] }
  | _ => none }
def FnExactDySubWrongFalsely : Prop := fnExactDySubRow.holds Tryd.pinned (OpenSpec.ofChange fnExactDySubWrong)

/-- 'laws.FnExactDyMul': WHATEVER THE INPUT: true; the input reads as it did. -/
def fnExactDyMulSpec : ChangeSpec := { name := "fnExactDyMul", fn := fun _ => fun
  | [d1, d2] => { results := [.lit (.bool true)], args := [d1, d2] }
  | _ => none }
def fnExactDyMulRow : OpenClaim := { program := "ytoijdclblcmpaaadoor", sum := "cb2eb4cf6c152a835073f965f9d8579ef4b9df1debf4f40a56ce21d83ad7cf78", func := "loop.example/g00382/laws.FnExactDyMul", spec := "fnExactDyMul", named := ["math/bits.deBruijn32tab", "math/bits.deBruijn64tab"], apart := false, laid := [("math/bits.deBruijn32tab", laid_math_bits_deBruijn32tab), ("math/bits.deBruijn64tab", laid_math_bits_deBruijn64tab)] }
def FnExactDyMulSaid : Prop := fnExactDyMulRow.holds Tryd.pinned (OpenSpec.ofChange fnExactDyMulSpec)

/-- ITS FALSE NEIGHBOUR: 'it returns false'. Refute it at one input. -/
def fnExactDyMulWrong : ChangeSpec := { name := "fnExactDyMul", fn := fun _ => fun
  | [d1, d2] => { results := [.lit (.bool false)], args := [d1, d2] }
  | _ => none }
def FnExactDyMulWrongFalsely : Prop := fnExactDyMulRow.holds Tryd.pinned (OpenSpec.ofChange fnExactDyMulWrong)

/-- 'laws.FnExactDyShift': WHATEVER THE INPUT: true; the input reads as it did. -/
def fnExactDyShiftSpec : ChangeSpec := { name := "fnExactDyShift", fn := fun _ => fun
  | [d1, d2] => { results := [.lit (.bool true)], args := [d1, d2] }
  | _ => none }
def fnExactDyShiftRow : OpenClaim := { program := "ytoijdclblcmpaaadoor", sum := "cb2eb4cf6c152a835073f965f9d8579ef4b9df1debf4f40a56ce21d83ad7cf78", func := "loop.example/g00382/laws.FnExactDyShift", spec := "fnExactDyShift", named := ["math/bits.deBruijn32tab", "math/bits.deBruijn64tab"], apart := false, laid := [("math/bits.deBruijn32tab", laid_math_bits_deBruijn32tab), ("math/bits.deBruijn64tab", laid_math_bits_deBruijn64tab)] }
def FnExactDyShiftSaid : Prop := fnExactDyShiftRow.holds Tryd.pinned (OpenSpec.ofChange fnExactDyShiftSpec)

/-- ITS FALSE NEIGHBOUR: 'it returns false'. Refute it at one input. -/
def fnExactDyShiftWrong : ChangeSpec := { name := "fnExactDyShift", fn := fun _ => fun
  | [d1, d2] => { results := [.lit (.bool false)], args := [d1, d2] }
  | _ => none }
def FnExactDyShiftWrongFalsely : Prop := fnExactDyShiftRow.holds Tryd.pinned (OpenSpec.ofChange fnExactDyShiftWrong)

/-- 'laws.FnExactDyRound': WHATEVER THE INPUT: true; the input reads as it did. -/
def fnExactDyRoundSpec : ChangeSpec := { name := "fnExactDyRound", fn := fun _ => fun
  | [d1, d2, d3] => { results := [.lit (.bool true)], args := [d1, d2, d3] }
  | _ => none }
def fnExactDyRoundRow : OpenClaim := { program := "ytoijdclblcmpaaadoor", sum := "cb2eb4cf6c152a835073f965f9d8579ef4b9df1debf4f40a56ce21d83ad7cf78", func := "loop.example/g00382/laws.FnExactDyRound", spec := "fnExactDyRound", unfollowed := true, recurses := true, named := ["math/bits.deBruijn32tab", "math/bits.deBruijn64tab"], apart := false, laid := [("math/bits.deBruijn32tab", laid_math_bits_deBruijn32tab), ("math/bits.deBruijn64tab", laid_math_bits_deBruijn64tab)] }
def FnExactDyRoundSaid : Prop := fnExactDyRoundRow.holds Tryd.pinned (OpenSpec.ofChange fnExactDyRoundSpec)

/-- ITS FALSE NEIGHBOUR: 'it returns false'. Refute it at one input. -/
def fnExactDyRoundWrong : ChangeSpec := { name := "fnExactDyRound", fn := fun _ => fun
  | [d1, d2, d3] => { results := [.lit (.bool false)], args := [d1, d2, d3] }
  | _ => none }
def FnExactDyRoundWrongFalsely : Prop := fnExactDyRoundRow.holds Tryd.pinned (OpenSpec.ofChange fnExactDyRoundWrong)

/-- 'laws.FnExactDyDiv': WHATEVER THE INPUT: true; the input reads as it did. -/
def fnExactDyDivSpec : ChangeSpec := { name := "fnExactDyDiv", fn := fun _ => fun
  | [d1, d2, d3, d4] => { results := [.lit (.bool true)], args := [d1, d2, d3, d4] }
  | _ => none }
def fnExactDyDivRow : OpenClaim := { program := "ytoijdclblcmpaaadoor", sum := "cb2eb4cf6c152a835073f965f9d8579ef4b9df1debf4f40a56ce21d83ad7cf78", func := "loop.example/g00382/laws.FnExactDyDiv", spec := "fnExactDyDiv", unfollowed := true, recurses := true, named := ["math/bits.deBruijn32tab", "math/bits.deBruijn64tab"], apart := false, laid := [("math/bits.deBruijn32tab", laid_math_bits_deBruijn32tab), ("math/bits.deBruijn64tab", laid_math_bits_deBruijn64tab)] }
def FnExactDyDivSaid : Prop := fnExactDyDivRow.holds Tryd.pinned (OpenSpec.ofChange fnExactDyDivSpec)

/-- ITS FALSE NEIGHBOUR: 'it returns false'. Refute it at one input. -/
def fnExactDyDivWrong : ChangeSpec := { name := "fnExactDyDiv", fn := fun _ => fun
  | [d1, d2, d3, d4] => { results := [.lit (.bool false)], args := [d1, d2, d3, d4] }
  | _ => none }
def FnExactDyDivWrongFalsely : Prop := fnExactDyDivRow.holds Tryd.pinned (OpenSpec.ofChange fnExactDyDivWrong)

/-- 'laws.FnExactDyRoot': WHATEVER THE INPUT: true; the input reads as it did. -/
def fnExactDyRootSpec : ChangeSpec := { name := "fnExactDyRoot", fn := fun _ => fun
  | [d1, d2, d3] => { results := [.lit (.bool true)], args := [d1, d2, d3] }
  | _ => none }
def fnExactDyRootRow : OpenClaim := { program := "ytoijdclblcmpaaadoor", sum := "cb2eb4cf6c152a835073f965f9d8579ef4b9df1debf4f40a56ce21d83ad7cf78", func := "loop.example/g00382/laws.FnExactDyRoot", spec := "fnExactDyRoot", unfollowed := true, recurses := true, named := ["math/bits.deBruijn32tab", "math/bits.deBruijn64tab"], apart := false, laid := [("math/bits.deBruijn32tab", laid_math_bits_deBruijn32tab), ("math/bits.deBruijn64tab", laid_math_bits_deBruijn64tab)] }
def FnExactDyRootSaid : Prop := fnExactDyRootRow.holds Tryd.pinned (OpenSpec.ofChange fnExactDyRootSpec)

/-- ITS FALSE NEIGHBOUR: 'it returns false'. Refute it at one input. -/
def fnExactDyRootWrong : ChangeSpec := { name := "fnExactDyRoot", fn := fun _ => fun
  | [d1, d2, d3] => { results := [.lit (.bool false)], args := [d1, d2, d3] }
  | _ => none }
def FnExactDyRootWrongFalsely : Prop := fnExactDyRootRow.holds Tryd.pinned (OpenSpec.ofChange fnExactDyRootWrong)

/- THE SECOND FORM. 'bulk': how many values and letters a reading holds, each counted each time it is reached (what is shared counts as often as it is met; a slice's spare places count too). A statement '..UptoSaid' is the law's where the arguments, and the package variables that the reading takes, are together of bulk at most 1048576: NARROWER than '..Said'. Prove '..Said' where nothing that the law and all that it calls make is longer than what came in: it says more and counts as full. Else prove '..UptoSaid'. A law counts once. -/
mutual
def uptoBulk {H : Type} : DataW H → Nat
  | .lit (.string bytes) => bytes.length + 1
  | .lit _ => 1
  | .nil => 1
  | .ptr d => uptoBulk d + 1
  | .slice elems spare => uptoBulkAll elems + uptoBulkAll spare + 1
  | .agg parts => uptoBulkAll parts + 1
  | .iface _ d => uptoBulk d + 1
  | .map entries => uptoBulkEntries entries + 1
  | .held _ => 1
def uptoBulkAll {H : Type} : List (DataW H) → Nat
  | [] => 0
  | d :: r => uptoBulk d + uptoBulkAll r
def uptoBulkEntries {H : Type} : List (Lit × DataW H) → Nat
  | [] => 0
  | x :: r => uptoBulkEntry x + uptoBulkEntries r
def uptoBulkEntry {H : Type} : Lit × DataW H → Nat
  | (.string bytes, d) => bytes.length + uptoBulk d + 1
  | (_, d) => uptoBulk d + 1
 end
def uptoSmall : (H : Type) → List (DataW H) → Bool := fun _ ds => decide (uptoBulkAll ds ≤ 1048576)
def OpenSpec.upto (s : _root_.Go.ChangeSpec) : _root_.Go.OpenSpec := { _root_.Go.OpenSpec.ofChange s with cond := some uptoSmall }

/-- 'laws.FnPlains', WHERE WHAT IT READS IS OF BULK AT MOST 1048576: true; the input reads as it did. -/
def fnPlainsUptoRow : OpenClaim := { program := "ytoijdclblcmpaaadoor", sum := "cb2eb4cf6c152a835073f965f9d8579ef4b9df1debf4f40a56ce21d83ad7cf78", func := "loop.example/g00382/laws.FnPlains", spec := "fnPlains", named := ["loop.example/g00382/impl.noughts"], apart := false, laid := [("loop.example/g00382/impl.noughts", laid_loop_example_g00382_impl_noughts)], narrowed := true }
def FnPlainsUptoSaid : Prop := fnPlainsUptoRow.holds Tryd.pinned (OpenSpec.upto fnPlainsSpec)

/-- 'laws.FnNatShifts', WHERE WHAT IT READS IS OF BULK AT MOST 1048576: true; the input reads as it did. -/
def fnNatShiftsUptoRow : OpenClaim := { program := "ytoijdclblcmpaaadoor", sum := "cb2eb4cf6c152a835073f965f9d8579ef4b9df1debf4f40a56ce21d83ad7cf78", func := "loop.example/g00382/laws.FnNatShifts", spec := "fnNatShifts", unfollowed := true, recurses := true, named := ["math/bits.deBruijn32tab", "math/bits.deBruijn64tab"], apart := false, laid := [("math/bits.deBruijn32tab", laid_math_bits_deBruijn32tab), ("math/bits.deBruijn64tab", laid_math_bits_deBruijn64tab)], narrowed := true }
def FnNatShiftsUptoSaid : Prop := fnNatShiftsUptoRow.holds Tryd.pinned (OpenSpec.upto fnNatShiftsSpec)

/-- 'laws.FnWholeTexts', WHERE WHAT IT READS IS OF BULK AT MOST 1048576: true; the input reads as it did. -/
def fnWholeTextsUptoRow : OpenClaim := { program := "ytoijdclblcmpaaadoor", sum := "cb2eb4cf6c152a835073f965f9d8579ef4b9df1debf4f40a56ce21d83ad7cf78", func := "loop.example/g00382/laws.FnWholeTexts", spec := "fnWholeTexts", unfollowed := true, recurses := true, named := ["loop.example/g00382/impl.noughts"], apart := false, laid := [("loop.example/g00382/impl.noughts", laid_loop_example_g00382_impl_noughts)], narrowed := true }
def FnWholeTextsUptoSaid : Prop := fnWholeTextsUptoRow.holds Tryd.pinned (OpenSpec.upto fnWholeTextsSpec)

/-- 'laws.FnDyRing', WHERE WHAT IT READS IS OF BULK AT MOST 1048576: true; the input reads as it did. -/
def fnDyRingUptoRow : OpenClaim := { program := "ytoijdclblcmpaaadoor", sum := "cb2eb4cf6c152a835073f965f9d8579ef4b9df1debf4f40a56ce21d83ad7cf78", func := "loop.example/g00382/laws.FnDyRing", spec := "fnDyRing", named := ["math/bits.deBruijn32tab", "math/bits.deBruijn64tab"], apart := false, laid := [("math/bits.deBruijn32tab", laid_math_bits_deBruijn32tab), ("math/bits.deBruijn64tab", laid_math_bits_deBruijn64tab)], narrowed := true }
def FnDyRingUptoSaid : Prop := fnDyRingUptoRow.holds Tryd.pinned (OpenSpec.upto fnDyRingSpec)

/-- 'laws.FnDyOrder', WHERE WHAT IT READS IS OF BULK AT MOST 1048576: true; the input reads as it did. -/
def fnDyOrderUptoRow : OpenClaim := { program := "ytoijdclblcmpaaadoor", sum := "cb2eb4cf6c152a835073f965f9d8579ef4b9df1debf4f40a56ce21d83ad7cf78", func := "loop.example/g00382/laws.FnDyOrder", spec := "fnDyOrder", named := ["math/bits.deBruijn32tab", "math/bits.deBruijn64tab"], apart := false, laid := [("math/bits.deBruijn32tab", laid_math_bits_deBruijn32tab), ("math/bits.deBruijn64tab", laid_math_bits_deBruijn64tab)], narrowed := true }
def FnDyOrderUptoSaid : Prop := fnDyOrderUptoRow.holds Tryd.pinned (OpenSpec.upto fnDyOrderSpec)

/-- 'laws.FnExactNatTrail', WHERE WHAT IT READS IS OF BULK AT MOST 1048576: true; the input reads as it did. -/
def fnExactNatTrailUptoRow : OpenClaim := { program := "ytoijdclblcmpaaadoor", sum := "cb2eb4cf6c152a835073f965f9d8579ef4b9df1debf4f40a56ce21d83ad7cf78", func := "loop.example/g00382/laws.FnExactNatTrail", spec := "fnExactNatTrail", named := ["math/bits.deBruijn32tab", "math/bits.deBruijn64tab"], apart := false, laid := [("math/bits.deBruijn32tab", laid_math_bits_deBruijn32tab), ("math/bits.deBruijn64tab", laid_math_bits_deBruijn64tab)], narrowed := true }
def FnExactNatTrailUptoSaid : Prop := fnExactNatTrailUptoRow.holds Tryd.pinned (OpenSpec.upto fnExactNatTrailSpec)

/-- 'laws.FnExactWholeRead', WHERE WHAT IT READS IS OF BULK AT MOST 1048576: true; the input reads as it did. -/
def fnExactWholeReadUptoRow : OpenClaim := { program := "ytoijdclblcmpaaadoor", sum := "cb2eb4cf6c152a835073f965f9d8579ef4b9df1debf4f40a56ce21d83ad7cf78", func := "loop.example/g00382/laws.FnExactWholeRead", spec := "fnExactWholeRead", named := ["loop.example/g00382/impl.noughts"], apart := false, laid := [("loop.example/g00382/impl.noughts", laid_loop_example_g00382_impl_noughts)], narrowed := true }
def FnExactWholeReadUptoSaid : Prop := fnExactWholeReadUptoRow.holds Tryd.pinned (OpenSpec.upto fnExactWholeReadSpec)

/-- 'laws.FnExactDyOf', WHERE WHAT IT READS IS OF BULK AT MOST 1048576: true; the input reads as it did. -/
def fnExactDyOfUptoRow : OpenClaim := { program := "ytoijdclblcmpaaadoor", sum := "cb2eb4cf6c152a835073f965f9d8579ef4b9df1debf4f40a56ce21d83ad7cf78", func := "loop.example/g00382/laws.FnExactDyOf", spec := "fnExactDyOf", named := ["math/bits.deBruijn32tab", "math/bits.deBruijn64tab"], apart := false, laid := [("math/bits.deBruijn32tab", laid_math_bits_deBruijn32tab), ("math/bits.deBruijn64tab", laid_math_bits_deBruijn64tab)], narrowed := true }
def FnExactDyOfUptoSaid : Prop := fnExactDyOfUptoRow.holds Tryd.pinned (OpenSpec.upto fnExactDyOfSpec)

/-- 'laws.FnExactDyNeg', WHERE WHAT IT READS IS OF BULK AT MOST 1048576: true; the input reads as it did. -/
def fnExactDyNegUptoRow : OpenClaim := { program := "ytoijdclblcmpaaadoor", sum := "cb2eb4cf6c152a835073f965f9d8579ef4b9df1debf4f40a56ce21d83ad7cf78", func := "loop.example/g00382/laws.FnExactDyNeg", spec := "fnExactDyNeg", named := ["math/bits.deBruijn32tab", "math/bits.deBruijn64tab"], apart := false, laid := [("math/bits.deBruijn32tab", laid_math_bits_deBruijn32tab), ("math/bits.deBruijn64tab", laid_math_bits_deBruijn64tab)], narrowed := true }
def FnExactDyNegUptoSaid : Prop := fnExactDyNegUptoRow.holds Tryd.pinned (OpenSpec.upto fnExactDyNegSpec)

/-- 'laws.FnExactDyAdd', WHERE WHAT IT READS IS OF BULK AT MOST 1048576: true; the input reads as it did. -/
def fnExactDyAddUptoRow : OpenClaim := { program := "ytoijdclblcmpaaadoor", sum := "cb2eb4cf6c152a835073f965f9d8579ef4b9df1debf4f40a56ce21d83ad7cf78", func := "loop.example/g00382/laws.FnExactDyAdd", spec := "fnExactDyAdd", named := ["math/bits.deBruijn32tab", "math/bits.deBruijn64tab"], apart := false, laid := [("math/bits.deBruijn32tab", laid_math_bits_deBruijn32tab), ("math/bits.deBruijn64tab", laid_math_bits_deBruijn64tab)], narrowed := true }
def FnExactDyAddUptoSaid : Prop := fnExactDyAddUptoRow.holds Tryd.pinned (OpenSpec.upto fnExactDyAddSpec)

/-- 'laws.FnExactDySub', WHERE WHAT IT READS IS OF BULK AT MOST 1048576: true; the input reads as it did. -/
def fnExactDySubUptoRow : OpenClaim := { program := "ytoijdclblcmpaaadoor", sum := "cb2eb4cf6c152a835073f965f9d8579ef4b9df1debf4f40a56ce21d83ad7cf78", func := "loop.example/g00382/laws.FnExactDySub", spec := "fnExactDySub", named := ["math/bits.deBruijn32tab", "math/bits.deBruijn64tab"], apart := false, laid := [("math/bits.deBruijn32tab", laid_math_bits_deBruijn32tab), ("math/bits.deBruijn64tab", laid_math_bits_deBruijn64tab)], narrowed := true }
def FnExactDySubUptoSaid : Prop := fnExactDySubUptoRow.holds Tryd.pinned (OpenSpec.upto fnExactDySubSpec)

/-- 'laws.FnExactDyMul', WHERE WHAT IT READS IS OF BULK AT MOST 1048576: true; the input reads as it did. -/
def fnExactDyMulUptoRow : OpenClaim := { program := "ytoijdclblcmpaaadoor", sum := "cb2eb4cf6c152a835073f965f9d8579ef4b9df1debf4f40a56ce21d83ad7cf78", func := "loop.example/g00382/laws.FnExactDyMul", spec := "fnExactDyMul", named := ["math/bits.deBruijn32tab", "math/bits.deBruijn64tab"], apart := false, laid := [("math/bits.deBruijn32tab", laid_math_bits_deBruijn32tab), ("math/bits.deBruijn64tab", laid_math_bits_deBruijn64tab)], narrowed := true }
def FnExactDyMulUptoSaid : Prop := fnExactDyMulUptoRow.holds Tryd.pinned (OpenSpec.upto fnExactDyMulSpec)

/-- 'laws.FnExactDyShift', WHERE WHAT IT READS IS OF BULK AT MOST 1048576: true; the input reads as it did. -/
def fnExactDyShiftUptoRow : OpenClaim := { program := "ytoijdclblcmpaaadoor", sum := "cb2eb4cf6c152a835073f965f9d8579ef4b9df1debf4f40a56ce21d83ad7cf78", func := "loop.example/g00382/laws.FnExactDyShift", spec := "fnExactDyShift", named := ["math/bits.deBruijn32tab", "math/bits.deBruijn64tab"], apart := false, laid := [("math/bits.deBruijn32tab", laid_math_bits_deBruijn32tab), ("math/bits.deBruijn64tab", laid_math_bits_deBruijn64tab)], narrowed := true }
def FnExactDyShiftUptoSaid : Prop := fnExactDyShiftUptoRow.holds Tryd.pinned (OpenSpec.upto fnExactDyShiftSpec)

/-- 'laws.FnExactDyRound', WHERE WHAT IT READS IS OF BULK AT MOST 1048576: true; the input reads as it did. -/
def fnExactDyRoundUptoRow : OpenClaim := { program := "ytoijdclblcmpaaadoor", sum := "cb2eb4cf6c152a835073f965f9d8579ef4b9df1debf4f40a56ce21d83ad7cf78", func := "loop.example/g00382/laws.FnExactDyRound", spec := "fnExactDyRound", unfollowed := true, recurses := true, named := ["math/bits.deBruijn32tab", "math/bits.deBruijn64tab"], apart := false, laid := [("math/bits.deBruijn32tab", laid_math_bits_deBruijn32tab), ("math/bits.deBruijn64tab", laid_math_bits_deBruijn64tab)], narrowed := true }
def FnExactDyRoundUptoSaid : Prop := fnExactDyRoundUptoRow.holds Tryd.pinned (OpenSpec.upto fnExactDyRoundSpec)

/-- 'laws.FnExactDyDiv', WHERE WHAT IT READS IS OF BULK AT MOST 1048576: true; the input reads as it did. -/
def fnExactDyDivUptoRow : OpenClaim := { program := "ytoijdclblcmpaaadoor", sum := "cb2eb4cf6c152a835073f965f9d8579ef4b9df1debf4f40a56ce21d83ad7cf78", func := "loop.example/g00382/laws.FnExactDyDiv", spec := "fnExactDyDiv", unfollowed := true, recurses := true, named := ["math/bits.deBruijn32tab", "math/bits.deBruijn64tab"], apart := false, laid := [("math/bits.deBruijn32tab", laid_math_bits_deBruijn32tab), ("math/bits.deBruijn64tab", laid_math_bits_deBruijn64tab)], narrowed := true }
def FnExactDyDivUptoSaid : Prop := fnExactDyDivUptoRow.holds Tryd.pinned (OpenSpec.upto fnExactDyDivSpec)

/-- 'laws.FnExactDyRoot', WHERE WHAT IT READS IS OF BULK AT MOST 1048576: true; the input reads as it did. -/
def fnExactDyRootUptoRow : OpenClaim := { program := "ytoijdclblcmpaaadoor", sum := "cb2eb4cf6c152a835073f965f9d8579ef4b9df1debf4f40a56ce21d83ad7cf78", func := "loop.example/g00382/laws.FnExactDyRoot", spec := "fnExactDyRoot", unfollowed := true, recurses := true, named := ["math/bits.deBruijn32tab", "math/bits.deBruijn64tab"], apart := false, laid := [("math/bits.deBruijn32tab", laid_math_bits_deBruijn32tab), ("math/bits.deBruijn64tab", laid_math_bits_deBruijn64tab)], narrowed := true }
def FnExactDyRootUptoSaid : Prop := fnExactDyRootUptoRow.holds Tryd.pinned (OpenSpec.upto fnExactDyRootSpec)

end Rows
end Go.Proofs.YtoijdclblcmpaaaDoor
