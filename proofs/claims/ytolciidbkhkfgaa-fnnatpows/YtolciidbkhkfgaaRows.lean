/-
  No cell of these rows narrows 'for every input' (looked for: loops, veiled, ifaces, maps, wideKeys, modest, calm, conditions, laid).
  DERIVED. THE GIVEN ROWS OF THIS SEAT. 24 by the template 'for every input the law returns true; each argument reads behind the call as it read before'; 0 by the template 'total and deterministic' (their statements: YtolciidbkhkfgaaTotals.lean).
  GIVEN WITH THE SEED: the statements are not yours to turn. If you find one false, say at which input.
  Laid BY PROGRAM, IN A SANDBOX (cutbox-rows.mjs): the forced cells as the released guide's own fill.sh prints them over the translation 8d321f8d457671b4… (all of the seat's roots in one cut). By AI agents, Wed Nov 11 2026. No macro, syntax, notation, axiom, sorry.
-/
import Derived.Test.YtolciidbkhkfgaaChecked
import GoSem.Claim
import GoSem.ClaimJoined
import GoSem.ClaimMapViews
import Derived.JoinedTies
import Derived.KernelRfl
namespace Go.Proofs.Ytolciidbkhkfgaa
/- THE CELL 'sum', in the pinned program and in every row, IS THE sha256 OF THE DUMP (.gsa) THAT YtolciidbkhkfgaaProg.lean LOADS. Nothing in Lean hashes anything: it is a label: what it is worth is what the hold of that sum in a sandbox is worth. -/
noncomputable def Try.pinned : Pinned := { name := "ytolciidbkhkfgaa", sum := "8d321f8d457671b4cc0832360f92c25fa8b3aab3b5a426b54a0afed3c08fc8b7", checked := Try.checked }
namespace Rows
def none {H : Type} : Left H := { results := [], args := [] }

/-- 'laws.FnNatRing': WHATEVER THE INPUT: true; the input reads as it did. -/
def fnNatRingSpec : ChangeSpec := { name := "fnNatRing", fn := fun _ => fun
  | [d] => { results := [.lit (.bool true)], args := [d] }
  | _ => none }
def fnNatRingRow : OpenClaim := { program := "ytolciidbkhkfgaa", sum := "8d321f8d457671b4cc0832360f92c25fa8b3aab3b5a426b54a0afed3c08fc8b7", func := "loop.example/g00382/laws.FnNatRing", spec := "fnNatRing", apart := false }
def FnNatRingSaid : Prop := fnNatRingRow.holds Try.pinned (OpenSpec.ofChange fnNatRingSpec)

/-- ITS FALSE NEIGHBOUR: 'it returns false'. Refute it at one input. -/
def fnNatRingWrong : ChangeSpec := { name := "fnNatRing", fn := fun _ => fun
  | [d] => { results := [.lit (.bool false)], args := [d] }
  | _ => none }
def FnNatRingWrongFalsely : Prop := fnNatRingRow.holds Try.pinned (OpenSpec.ofChange fnNatRingWrong)

/-- 'laws.FnNatOrder': WHATEVER THE INPUT: true; the input reads as it did. -/
def fnNatOrderSpec : ChangeSpec := { name := "fnNatOrder", fn := fun _ => fun
  | [d] => { results := [.lit (.bool true)], args := [d] }
  | _ => none }
def fnNatOrderRow : OpenClaim := { program := "ytolciidbkhkfgaa", sum := "8d321f8d457671b4cc0832360f92c25fa8b3aab3b5a426b54a0afed3c08fc8b7", func := "loop.example/g00382/laws.FnNatOrder", spec := "fnNatOrder", apart := false }
def FnNatOrderSaid : Prop := fnNatOrderRow.holds Try.pinned (OpenSpec.ofChange fnNatOrderSpec)

/-- ITS FALSE NEIGHBOUR: 'it returns false'. Refute it at one input. -/
def fnNatOrderWrong : ChangeSpec := { name := "fnNatOrder", fn := fun _ => fun
  | [d] => { results := [.lit (.bool false)], args := [d] }
  | _ => none }
def FnNatOrderWrongFalsely : Prop := fnNatOrderRow.holds Try.pinned (OpenSpec.ofChange fnNatOrderWrong)

/-- 'laws.FnNatDivs': WHATEVER THE INPUT: true; the input reads as it did. -/
def fnNatDivsSpec : ChangeSpec := { name := "fnNatDivs", fn := fun _ => fun
  | [d] => { results := [.lit (.bool true)], args := [d] }
  | _ => none }
def fnNatDivsRow : OpenClaim := { program := "ytolciidbkhkfgaa", sum := "8d321f8d457671b4cc0832360f92c25fa8b3aab3b5a426b54a0afed3c08fc8b7", func := "loop.example/g00382/laws.FnNatDivs", spec := "fnNatDivs", apart := false }
def FnNatDivsSaid : Prop := fnNatDivsRow.holds Try.pinned (OpenSpec.ofChange fnNatDivsSpec)

/-- ITS FALSE NEIGHBOUR: 'it returns false'. Refute it at one input. -/
def fnNatDivsWrong : ChangeSpec := { name := "fnNatDivs", fn := fun _ => fun
  | [d] => { results := [.lit (.bool false)], args := [d] }
  | _ => none }
def FnNatDivsWrongFalsely : Prop := fnNatDivsRow.holds Try.pinned (OpenSpec.ofChange fnNatDivsWrong)

/-- 'laws.FnNatRoots': WHATEVER THE INPUT: true; the input reads as it did. -/
def fnNatRootsSpec : ChangeSpec := { name := "fnNatRoots", fn := fun _ => fun
  | [d] => { results := [.lit (.bool true)], args := [d] }
  | _ => none }
def fnNatRootsRow : OpenClaim := { program := "ytolciidbkhkfgaa", sum := "8d321f8d457671b4cc0832360f92c25fa8b3aab3b5a426b54a0afed3c08fc8b7", func := "loop.example/g00382/laws.FnNatRoots", spec := "fnNatRoots", apart := false }
def FnNatRootsSaid : Prop := fnNatRootsRow.holds Try.pinned (OpenSpec.ofChange fnNatRootsSpec)

/-- ITS FALSE NEIGHBOUR: 'it returns false'. Refute it at one input. -/
def fnNatRootsWrong : ChangeSpec := { name := "fnNatRoots", fn := fun _ => fun
  | [d] => { results := [.lit (.bool false)], args := [d] }
  | _ => none }
def FnNatRootsWrongFalsely : Prop := fnNatRootsRow.holds Try.pinned (OpenSpec.ofChange fnNatRootsWrong)

/-- 'laws.FnNatGcds': WHATEVER THE INPUT: true; the input reads as it did. -/
def fnNatGcdsSpec : ChangeSpec := { name := "fnNatGcds", fn := fun _ => fun
  | [d] => { results := [.lit (.bool true)], args := [d] }
  | _ => none }
def fnNatGcdsRow : OpenClaim := { program := "ytolciidbkhkfgaa", sum := "8d321f8d457671b4cc0832360f92c25fa8b3aab3b5a426b54a0afed3c08fc8b7", func := "loop.example/g00382/laws.FnNatGcds", spec := "fnNatGcds", apart := false }
def FnNatGcdsSaid : Prop := fnNatGcdsRow.holds Try.pinned (OpenSpec.ofChange fnNatGcdsSpec)

/-- ITS FALSE NEIGHBOUR: 'it returns false'. Refute it at one input. -/
def fnNatGcdsWrong : ChangeSpec := { name := "fnNatGcds", fn := fun _ => fun
  | [d] => { results := [.lit (.bool false)], args := [d] }
  | _ => none }
def FnNatGcdsWrongFalsely : Prop := fnNatGcdsRow.holds Try.pinned (OpenSpec.ofChange fnNatGcdsWrong)

/-- 'laws.FnNatPows': WHATEVER THE INPUT: true; the input reads as it did. -/
def fnNatPowsSpec : ChangeSpec := { name := "fnNatPows", fn := fun _ => fun
  | [d] => { results := [.lit (.bool true)], args := [d] }
  | _ => none }
def fnNatPowsRow : OpenClaim := { program := "ytolciidbkhkfgaa", sum := "8d321f8d457671b4cc0832360f92c25fa8b3aab3b5a426b54a0afed3c08fc8b7", func := "loop.example/g00382/laws.FnNatPows", spec := "fnNatPows", unfollowed := true, recurses := true, apart := false }
def FnNatPowsSaid : Prop := fnNatPowsRow.holds Try.pinned (OpenSpec.ofChange fnNatPowsSpec)

/-- ITS FALSE NEIGHBOUR: 'it returns false'. Refute it at one input. -/
def fnNatPowsWrong : ChangeSpec := { name := "fnNatPows", fn := fun _ => fun
  | [d] => { results := [.lit (.bool false)], args := [d] }
  | _ => none }
def FnNatPowsWrongFalsely : Prop := fnNatPowsRow.holds Try.pinned (OpenSpec.ofChange fnNatPowsWrong)

/-- 'laws.FnNatTexts': WHATEVER THE INPUT: true; the input reads as it did. -/
def fnNatTextsSpec : ChangeSpec := { name := "fnNatTexts", fn := fun _ => fun
  | [d] => { results := [.lit (.bool true)], args := [d] }
  | _ => none }
def fnNatTextsRow : OpenClaim := { program := "ytolciidbkhkfgaa", sum := "8d321f8d457671b4cc0832360f92c25fa8b3aab3b5a426b54a0afed3c08fc8b7", func := "loop.example/g00382/laws.FnNatTexts", spec := "fnNatTexts", unfollowed := true, recurses := true, apart := false }
def FnNatTextsSaid : Prop := fnNatTextsRow.holds Try.pinned (OpenSpec.ofChange fnNatTextsSpec)

/-- ITS FALSE NEIGHBOUR: 'it returns false'. Refute it at one input. -/
def fnNatTextsWrong : ChangeSpec := { name := "fnNatTexts", fn := fun _ => fun
  | [d] => { results := [.lit (.bool false)], args := [d] }
  | _ => none }
def FnNatTextsWrongFalsely : Prop := fnNatTextsRow.holds Try.pinned (OpenSpec.ofChange fnNatTextsWrong)

/-- 'laws.FnExactNatOk': WHATEVER THE INPUT: true; the input reads as it did. -/
def fnExactNatOkSpec : ChangeSpec := { name := "fnExactNatOk", fn := fun _ => fun
  | [d] => { results := [.lit (.bool true)], args := [d] }
  | _ => none }
def fnExactNatOkRow : OpenClaim := { program := "ytolciidbkhkfgaa", sum := "8d321f8d457671b4cc0832360f92c25fa8b3aab3b5a426b54a0afed3c08fc8b7", func := "loop.example/g00382/laws.FnExactNatOk", spec := "fnExactNatOk", apart := false }
def FnExactNatOkSaid : Prop := fnExactNatOkRow.holds Try.pinned (OpenSpec.ofChange fnExactNatOkSpec)

/-- ITS FALSE NEIGHBOUR: 'it returns false'. Refute it at one input. -/
def fnExactNatOkWrong : ChangeSpec := { name := "fnExactNatOk", fn := fun _ => fun
  | [d] => { results := [.lit (.bool false)], args := [d] }
  | _ => none }
def FnExactNatOkWrongFalsely : Prop := fnExactNatOkRow.holds Try.pinned (OpenSpec.ofChange fnExactNatOkWrong)

/-- 'laws.FnExactNatOf': WHATEVER THE INPUT: true; the input reads as it did. -/
def fnExactNatOfSpec : ChangeSpec := { name := "fnExactNatOf", fn := fun _ => fun
  | [d] => { results := [.lit (.bool true)], args := [d] }
  | _ => none }
def fnExactNatOfRow : OpenClaim := { program := "ytolciidbkhkfgaa", sum := "8d321f8d457671b4cc0832360f92c25fa8b3aab3b5a426b54a0afed3c08fc8b7", func := "loop.example/g00382/laws.FnExactNatOf", spec := "fnExactNatOf", apart := false }
def FnExactNatOfSaid : Prop := fnExactNatOfRow.holds Try.pinned (OpenSpec.ofChange fnExactNatOfSpec)

/-- ITS FALSE NEIGHBOUR: 'it returns false'. Refute it at one input. -/
def fnExactNatOfWrong : ChangeSpec := { name := "fnExactNatOf", fn := fun _ => fun
  | [d] => { results := [.lit (.bool false)], args := [d] }
  | _ => none }
def FnExactNatOfWrongFalsely : Prop := fnExactNatOfRow.holds Try.pinned (OpenSpec.ofChange fnExactNatOfWrong)

/-- 'laws.FnExactNatInt': WHATEVER THE INPUT: true; the input reads as it did. -/
def fnExactNatIntSpec : ChangeSpec := { name := "fnExactNatInt", fn := fun _ => fun
  | [d] => { results := [.lit (.bool true)], args := [d] }
  | _ => none }
def fnExactNatIntRow : OpenClaim := { program := "ytolciidbkhkfgaa", sum := "8d321f8d457671b4cc0832360f92c25fa8b3aab3b5a426b54a0afed3c08fc8b7", func := "loop.example/g00382/laws.FnExactNatInt", spec := "fnExactNatInt", apart := false }
def FnExactNatIntSaid : Prop := fnExactNatIntRow.holds Try.pinned (OpenSpec.ofChange fnExactNatIntSpec)

/-- ITS FALSE NEIGHBOUR: 'it returns false'. Refute it at one input. -/
def fnExactNatIntWrong : ChangeSpec := { name := "fnExactNatInt", fn := fun _ => fun
  | [d] => { results := [.lit (.bool false)], args := [d] }
  | _ => none }
def FnExactNatIntWrongFalsely : Prop := fnExactNatIntRow.holds Try.pinned (OpenSpec.ofChange fnExactNatIntWrong)

/-- 'laws.FnExactNatCmp': WHATEVER THE INPUT: true; the input reads as it did. -/
def fnExactNatCmpSpec : ChangeSpec := { name := "fnExactNatCmp", fn := fun _ => fun
  | [d1, d2] => { results := [.lit (.bool true)], args := [d1, d2] }
  | _ => none }
def fnExactNatCmpRow : OpenClaim := { program := "ytolciidbkhkfgaa", sum := "8d321f8d457671b4cc0832360f92c25fa8b3aab3b5a426b54a0afed3c08fc8b7", func := "loop.example/g00382/laws.FnExactNatCmp", spec := "fnExactNatCmp", apart := false }
def FnExactNatCmpSaid : Prop := fnExactNatCmpRow.holds Try.pinned (OpenSpec.ofChange fnExactNatCmpSpec)

/-- ITS FALSE NEIGHBOUR: 'it returns false'. Refute it at one input. -/
def fnExactNatCmpWrong : ChangeSpec := { name := "fnExactNatCmp", fn := fun _ => fun
  | [d1, d2] => { results := [.lit (.bool false)], args := [d1, d2] }
  | _ => none }
def FnExactNatCmpWrongFalsely : Prop := fnExactNatCmpRow.holds Try.pinned (OpenSpec.ofChange fnExactNatCmpWrong)

/-- 'laws.FnExactNatAdd': WHATEVER THE INPUT: true; the input reads as it did. -/
def fnExactNatAddSpec : ChangeSpec := { name := "fnExactNatAdd", fn := fun _ => fun
  | [d1, d2] => { results := [.lit (.bool true)], args := [d1, d2] }
  | _ => none }
def fnExactNatAddRow : OpenClaim := { program := "ytolciidbkhkfgaa", sum := "8d321f8d457671b4cc0832360f92c25fa8b3aab3b5a426b54a0afed3c08fc8b7", func := "loop.example/g00382/laws.FnExactNatAdd", spec := "fnExactNatAdd", apart := false }
def FnExactNatAddSaid : Prop := fnExactNatAddRow.holds Try.pinned (OpenSpec.ofChange fnExactNatAddSpec)

/-- ITS FALSE NEIGHBOUR: 'it returns false'. Refute it at one input. -/
def fnExactNatAddWrong : ChangeSpec := { name := "fnExactNatAdd", fn := fun _ => fun
  | [d1, d2] => { results := [.lit (.bool false)], args := [d1, d2] }
  | _ => none }
def FnExactNatAddWrongFalsely : Prop := fnExactNatAddRow.holds Try.pinned (OpenSpec.ofChange fnExactNatAddWrong)

/-- 'laws.FnExactNatSub': WHATEVER THE INPUT: true; the input reads as it did. -/
def fnExactNatSubSpec : ChangeSpec := { name := "fnExactNatSub", fn := fun _ => fun
  | [d1, d2] => { results := [.lit (.bool true)], args := [d1, d2] }
  | _ => none }
def fnExactNatSubRow : OpenClaim := { program := "ytolciidbkhkfgaa", sum := "8d321f8d457671b4cc0832360f92c25fa8b3aab3b5a426b54a0afed3c08fc8b7", func := "loop.example/g00382/laws.FnExactNatSub", spec := "fnExactNatSub", apart := false }
def FnExactNatSubSaid : Prop := fnExactNatSubRow.holds Try.pinned (OpenSpec.ofChange fnExactNatSubSpec)

/-- ITS FALSE NEIGHBOUR: 'it returns false'. Refute it at one input. -/
def fnExactNatSubWrong : ChangeSpec := { name := "fnExactNatSub", fn := fun _ => fun
  | [d1, d2] => { results := [.lit (.bool false)], args := [d1, d2] }
  | _ => none }
def FnExactNatSubWrongFalsely : Prop := fnExactNatSubRow.holds Try.pinned (OpenSpec.ofChange fnExactNatSubWrong)

/-- 'laws.FnExactNatMul': WHATEVER THE INPUT: true; the input reads as it did. -/
def fnExactNatMulSpec : ChangeSpec := { name := "fnExactNatMul", fn := fun _ => fun
  | [d1, d2] => { results := [.lit (.bool true)], args := [d1, d2] }
  | _ => none }
def fnExactNatMulRow : OpenClaim := { program := "ytolciidbkhkfgaa", sum := "8d321f8d457671b4cc0832360f92c25fa8b3aab3b5a426b54a0afed3c08fc8b7", func := "loop.example/g00382/laws.FnExactNatMul", spec := "fnExactNatMul", apart := false }
def FnExactNatMulSaid : Prop := fnExactNatMulRow.holds Try.pinned (OpenSpec.ofChange fnExactNatMulSpec)

/-- ITS FALSE NEIGHBOUR: 'it returns false'. Refute it at one input. -/
def fnExactNatMulWrong : ChangeSpec := { name := "fnExactNatMul", fn := fun _ => fun
  | [d1, d2] => { results := [.lit (.bool false)], args := [d1, d2] }
  | _ => none }
def FnExactNatMulWrongFalsely : Prop := fnExactNatMulRow.holds Try.pinned (OpenSpec.ofChange fnExactNatMulWrong)

/-- 'laws.FnExactNatDiv': WHATEVER THE INPUT: true; the input reads as it did. -/
def fnExactNatDivSpec : ChangeSpec := { name := "fnExactNatDiv", fn := fun _ => fun
  | [d1, d2] => { results := [.lit (.bool true)], args := [d1, d2] }
  | _ => none }
def fnExactNatDivRow : OpenClaim := { program := "ytolciidbkhkfgaa", sum := "8d321f8d457671b4cc0832360f92c25fa8b3aab3b5a426b54a0afed3c08fc8b7", func := "loop.example/g00382/laws.FnExactNatDiv", spec := "fnExactNatDiv", apart := false }
def FnExactNatDivSaid : Prop := fnExactNatDivRow.holds Try.pinned (OpenSpec.ofChange fnExactNatDivSpec)

/-- ITS FALSE NEIGHBOUR: 'it returns false'. Refute it at one input. -/
def fnExactNatDivWrong : ChangeSpec := { name := "fnExactNatDiv", fn := fun _ => fun
  | [d1, d2] => { results := [.lit (.bool false)], args := [d1, d2] }
  | _ => none }
def FnExactNatDivWrongFalsely : Prop := fnExactNatDivRow.holds Try.pinned (OpenSpec.ofChange fnExactNatDivWrong)

/-- 'laws.FnExactNatShl': WHATEVER THE INPUT: true; the input reads as it did. -/
def fnExactNatShlSpec : ChangeSpec := { name := "fnExactNatShl", fn := fun _ => fun
  | [d1, d2] => { results := [.lit (.bool true)], args := [d1, d2] }
  | _ => none }
def fnExactNatShlRow : OpenClaim := { program := "ytolciidbkhkfgaa", sum := "8d321f8d457671b4cc0832360f92c25fa8b3aab3b5a426b54a0afed3c08fc8b7", func := "loop.example/g00382/laws.FnExactNatShl", spec := "fnExactNatShl", apart := false }
def FnExactNatShlSaid : Prop := fnExactNatShlRow.holds Try.pinned (OpenSpec.ofChange fnExactNatShlSpec)

/-- ITS FALSE NEIGHBOUR: 'it returns false'. Refute it at one input. -/
def fnExactNatShlWrong : ChangeSpec := { name := "fnExactNatShl", fn := fun _ => fun
  | [d1, d2] => { results := [.lit (.bool false)], args := [d1, d2] }
  | _ => none }
def FnExactNatShlWrongFalsely : Prop := fnExactNatShlRow.holds Try.pinned (OpenSpec.ofChange fnExactNatShlWrong)

/-- 'laws.FnExactNatShr': WHATEVER THE INPUT: true; the input reads as it did. -/
def fnExactNatShrSpec : ChangeSpec := { name := "fnExactNatShr", fn := fun _ => fun
  | [d1, d2] => { results := [.lit (.bool true)], args := [d1, d2] }
  | _ => none }
def fnExactNatShrRow : OpenClaim := { program := "ytolciidbkhkfgaa", sum := "8d321f8d457671b4cc0832360f92c25fa8b3aab3b5a426b54a0afed3c08fc8b7", func := "loop.example/g00382/laws.FnExactNatShr", spec := "fnExactNatShr", apart := false }
def FnExactNatShrSaid : Prop := fnExactNatShrRow.holds Try.pinned (OpenSpec.ofChange fnExactNatShrSpec)

/-- ITS FALSE NEIGHBOUR: 'it returns false'. Refute it at one input. -/
def fnExactNatShrWrong : ChangeSpec := { name := "fnExactNatShr", fn := fun _ => fun
  | [d1, d2] => { results := [.lit (.bool false)], args := [d1, d2] }
  | _ => none }
def FnExactNatShrWrongFalsely : Prop := fnExactNatShrRow.holds Try.pinned (OpenSpec.ofChange fnExactNatShrWrong)

/-- 'laws.FnExactNatBits': WHATEVER THE INPUT: true; the input reads as it did. -/
def fnExactNatBitsSpec : ChangeSpec := { name := "fnExactNatBits", fn := fun _ => fun
  | [d] => { results := [.lit (.bool true)], args := [d] }
  | _ => none }
def fnExactNatBitsRow : OpenClaim := { program := "ytolciidbkhkfgaa", sum := "8d321f8d457671b4cc0832360f92c25fa8b3aab3b5a426b54a0afed3c08fc8b7", func := "loop.example/g00382/laws.FnExactNatBits", spec := "fnExactNatBits", apart := false }
def FnExactNatBitsSaid : Prop := fnExactNatBitsRow.holds Try.pinned (OpenSpec.ofChange fnExactNatBitsSpec)

/-- ITS FALSE NEIGHBOUR: 'it returns false'. Refute it at one input. -/
def fnExactNatBitsWrong : ChangeSpec := { name := "fnExactNatBits", fn := fun _ => fun
  | [d] => { results := [.lit (.bool false)], args := [d] }
  | _ => none }
def FnExactNatBitsWrongFalsely : Prop := fnExactNatBitsRow.holds Try.pinned (OpenSpec.ofChange fnExactNatBitsWrong)

/-- 'laws.FnExactNatBit': WHATEVER THE INPUT: true; the input reads as it did. -/
def fnExactNatBitSpec : ChangeSpec := { name := "fnExactNatBit", fn := fun _ => fun
  | [d1, d2] => { results := [.lit (.bool true)], args := [d1, d2] }
  | _ => none }
def fnExactNatBitRow : OpenClaim := { program := "ytolciidbkhkfgaa", sum := "8d321f8d457671b4cc0832360f92c25fa8b3aab3b5a426b54a0afed3c08fc8b7", func := "loop.example/g00382/laws.FnExactNatBit", spec := "fnExactNatBit", apart := false }
def FnExactNatBitSaid : Prop := fnExactNatBitRow.holds Try.pinned (OpenSpec.ofChange fnExactNatBitSpec)

/-- ITS FALSE NEIGHBOUR: 'it returns false'. Refute it at one input. -/
def fnExactNatBitWrong : ChangeSpec := { name := "fnExactNatBit", fn := fun _ => fun
  | [d1, d2] => { results := [.lit (.bool false)], args := [d1, d2] }
  | _ => none }
def FnExactNatBitWrongFalsely : Prop := fnExactNatBitRow.holds Try.pinned (OpenSpec.ofChange fnExactNatBitWrong)

/-- 'laws.FnExactNatGcd': WHATEVER THE INPUT: true; the input reads as it did. -/
def fnExactNatGcdSpec : ChangeSpec := { name := "fnExactNatGcd", fn := fun _ => fun
  | [d1, d2] => { results := [.lit (.bool true)], args := [d1, d2] }
  | _ => none }
def fnExactNatGcdRow : OpenClaim := { program := "ytolciidbkhkfgaa", sum := "8d321f8d457671b4cc0832360f92c25fa8b3aab3b5a426b54a0afed3c08fc8b7", func := "loop.example/g00382/laws.FnExactNatGcd", spec := "fnExactNatGcd", apart := false }
def FnExactNatGcdSaid : Prop := fnExactNatGcdRow.holds Try.pinned (OpenSpec.ofChange fnExactNatGcdSpec)

/-- ITS FALSE NEIGHBOUR: 'it returns false'. Refute it at one input. -/
def fnExactNatGcdWrong : ChangeSpec := { name := "fnExactNatGcd", fn := fun _ => fun
  | [d1, d2] => { results := [.lit (.bool false)], args := [d1, d2] }
  | _ => none }
def FnExactNatGcdWrongFalsely : Prop := fnExactNatGcdRow.holds Try.pinned (OpenSpec.ofChange fnExactNatGcdWrong)

/-- 'laws.FnExactNatRoot': WHATEVER THE INPUT: true; the input reads as it did. -/
def fnExactNatRootSpec : ChangeSpec := { name := "fnExactNatRoot", fn := fun _ => fun
  | [d] => { results := [.lit (.bool true)], args := [d] }
  | _ => none }
def fnExactNatRootRow : OpenClaim := { program := "ytolciidbkhkfgaa", sum := "8d321f8d457671b4cc0832360f92c25fa8b3aab3b5a426b54a0afed3c08fc8b7", func := "loop.example/g00382/laws.FnExactNatRoot", spec := "fnExactNatRoot", apart := false }
def FnExactNatRootSaid : Prop := fnExactNatRootRow.holds Try.pinned (OpenSpec.ofChange fnExactNatRootSpec)

/-- ITS FALSE NEIGHBOUR: 'it returns false'. Refute it at one input. -/
def fnExactNatRootWrong : ChangeSpec := { name := "fnExactNatRoot", fn := fun _ => fun
  | [d] => { results := [.lit (.bool false)], args := [d] }
  | _ => none }
def FnExactNatRootWrongFalsely : Prop := fnExactNatRootRow.holds Try.pinned (OpenSpec.ofChange fnExactNatRootWrong)

/-- 'laws.FnExactNatPow': WHATEVER THE INPUT: true; the input reads as it did. -/
def fnExactNatPowSpec : ChangeSpec := { name := "fnExactNatPow", fn := fun _ => fun
  | [d1, d2] => { results := [.lit (.bool true)], args := [d1, d2] }
  | _ => none }
def fnExactNatPowRow : OpenClaim := { program := "ytolciidbkhkfgaa", sum := "8d321f8d457671b4cc0832360f92c25fa8b3aab3b5a426b54a0afed3c08fc8b7", func := "loop.example/g00382/laws.FnExactNatPow", spec := "fnExactNatPow", unfollowed := true, recurses := true, apart := false }
def FnExactNatPowSaid : Prop := fnExactNatPowRow.holds Try.pinned (OpenSpec.ofChange fnExactNatPowSpec)

/-- ITS FALSE NEIGHBOUR: 'it returns false'. Refute it at one input. -/
def fnExactNatPowWrong : ChangeSpec := { name := "fnExactNatPow", fn := fun _ => fun
  | [d1, d2] => { results := [.lit (.bool false)], args := [d1, d2] }
  | _ => none }
def FnExactNatPowWrongFalsely : Prop := fnExactNatPowRow.holds Try.pinned (OpenSpec.ofChange fnExactNatPowWrong)

/-- 'laws.FnExactNatText': WHATEVER THE INPUT: true; the input reads as it did. -/
def fnExactNatTextSpec : ChangeSpec := { name := "fnExactNatText", fn := fun _ => fun
  | [d] => { results := [.lit (.bool true)], args := [d] }
  | _ => none }
def fnExactNatTextRow : OpenClaim := { program := "ytolciidbkhkfgaa", sum := "8d321f8d457671b4cc0832360f92c25fa8b3aab3b5a426b54a0afed3c08fc8b7", func := "loop.example/g00382/laws.FnExactNatText", spec := "fnExactNatText", unfollowed := true, recurses := true, apart := false }
def FnExactNatTextSaid : Prop := fnExactNatTextRow.holds Try.pinned (OpenSpec.ofChange fnExactNatTextSpec)

/-- ITS FALSE NEIGHBOUR: 'it returns false'. Refute it at one input. -/
def fnExactNatTextWrong : ChangeSpec := { name := "fnExactNatText", fn := fun _ => fun
  | [d] => { results := [.lit (.bool false)], args := [d] }
  | _ => none }
def FnExactNatTextWrongFalsely : Prop := fnExactNatTextRow.holds Try.pinned (OpenSpec.ofChange fnExactNatTextWrong)

/-- 'laws.FnExactNatRead': WHATEVER THE INPUT: true; the input reads as it did. -/
def fnExactNatReadSpec : ChangeSpec := { name := "fnExactNatRead", fn := fun _ => fun
  | [d] => { results := [.lit (.bool true)], args := [d] }
  | _ => none }
def fnExactNatReadRow : OpenClaim := { program := "ytolciidbkhkfgaa", sum := "8d321f8d457671b4cc0832360f92c25fa8b3aab3b5a426b54a0afed3c08fc8b7", func := "loop.example/g00382/laws.FnExactNatRead", spec := "fnExactNatRead", apart := false }
def FnExactNatReadSaid : Prop := fnExactNatReadRow.holds Try.pinned (OpenSpec.ofChange fnExactNatReadSpec)

/-- ITS FALSE NEIGHBOUR: 'it returns false'. Refute it at one input. -/
def fnExactNatReadWrong : ChangeSpec := { name := "fnExactNatRead", fn := fun _ => fun
  | [d] => { results := [.lit (.bool false)], args := [d] }
  | _ => none }
def FnExactNatReadWrongFalsely : Prop := fnExactNatReadRow.holds Try.pinned (OpenSpec.ofChange fnExactNatReadWrong)

/- THE SECOND FORM. 'bulk': how many values and letters a reading holds, each counted each time it is reached (what is shared counts as often as it is met; a slice's spare places count too). A statement '..UptoSaid' is the law's where the arguments, and the package variables that the reading takes, are together of bulk at most 1048576: NARROWER than '..Said'. Prove '..Said' where nothing that the law and all that it calls make is longer than what came in: it says more and counts as full. Else prove '..UptoSaid'. A law counts once. -/
mutual
def uptoBulk {H : Type} : DataW H → Nat
  | .lit (.string bytes) => bytes.length + 1
  | .lit _ => 1
  | .nil => 1
  | .ptr d => uptoBulk d + 1
  | .slice elems spare => uptoBulkAll elems + uptoBulkAll spare + 1
  | .agg parts => uptoBulkAll parts + 1
  | .iface _ d => uptoBulk d + 1
  | .map entries => uptoBulkEntries entries + 1
  | .held _ => 1
def uptoBulkAll {H : Type} : List (DataW H) → Nat
  | [] => 0
  | d :: r => uptoBulk d + uptoBulkAll r
def uptoBulkEntries {H : Type} : List (Lit × DataW H) → Nat
  | [] => 0
  | x :: r => uptoBulkEntry x + uptoBulkEntries r
def uptoBulkEntry {H : Type} : Lit × DataW H → Nat
  | (.string bytes, d) => bytes.length + uptoBulk d + 1
  | (_, d) => uptoBulk d + 1
 end
def uptoSmall : (H : Type) → List (DataW H) → Bool := fun _ ds => decide (uptoBulkAll ds ≤ 1048576)
def OpenSpec.upto (s : _root_.Go.ChangeSpec) : _root_.Go.OpenSpec := { _root_.Go.OpenSpec.ofChange s with cond := some uptoSmall }

/-- 'laws.FnNatRing', WHERE WHAT IT READS IS OF BULK AT MOST 1048576: true; the input reads as it did. -/
def fnNatRingUptoRow : OpenClaim := { program := "ytolciidbkhkfgaa", sum := "8d321f8d457671b4cc0832360f92c25fa8b3aab3b5a426b54a0afed3c08fc8b7", func := "loop.example/g00382/laws.FnNatRing", spec := "fnNatRing", apart := false, narrowed := true }
def FnNatRingUptoSaid : Prop := fnNatRingUptoRow.holds Try.pinned (OpenSpec.upto fnNatRingSpec)

/-- 'laws.FnNatOrder', WHERE WHAT IT READS IS OF BULK AT MOST 1048576: true; the input reads as it did. -/
def fnNatOrderUptoRow : OpenClaim := { program := "ytolciidbkhkfgaa", sum := "8d321f8d457671b4cc0832360f92c25fa8b3aab3b5a426b54a0afed3c08fc8b7", func := "loop.example/g00382/laws.FnNatOrder", spec := "fnNatOrder", apart := false, narrowed := true }
def FnNatOrderUptoSaid : Prop := fnNatOrderUptoRow.holds Try.pinned (OpenSpec.upto fnNatOrderSpec)

/-- 'laws.FnNatDivs', WHERE WHAT IT READS IS OF BULK AT MOST 1048576: true; the input reads as it did. -/
def fnNatDivsUptoRow : OpenClaim := { program := "ytolciidbkhkfgaa", sum := "8d321f8d457671b4cc0832360f92c25fa8b3aab3b5a426b54a0afed3c08fc8b7", func := "loop.example/g00382/laws.FnNatDivs", spec := "fnNatDivs", apart := false, narrowed := true }
def FnNatDivsUptoSaid : Prop := fnNatDivsUptoRow.holds Try.pinned (OpenSpec.upto fnNatDivsSpec)

/-- 'laws.FnNatRoots', WHERE WHAT IT READS IS OF BULK AT MOST 1048576: true; the input reads as it did. -/
def fnNatRootsUptoRow : OpenClaim := { program := "ytolciidbkhkfgaa", sum := "8d321f8d457671b4cc0832360f92c25fa8b3aab3b5a426b54a0afed3c08fc8b7", func := "loop.example/g00382/laws.FnNatRoots", spec := "fnNatRoots", apart := false, narrowed := true }
def FnNatRootsUptoSaid : Prop := fnNatRootsUptoRow.holds Try.pinned (OpenSpec.upto fnNatRootsSpec)

/-- 'laws.FnNatGcds', WHERE WHAT IT READS IS OF BULK AT MOST 1048576: true; the input reads as it did. -/
def fnNatGcdsUptoRow : OpenClaim := { program := "ytolciidbkhkfgaa", sum := "8d321f8d457671b4cc0832360f92c25fa8b3aab3b5a426b54a0afed3c08fc8b7", func := "loop.example/g00382/laws.FnNatGcds", spec := "fnNatGcds", apart := false, narrowed := true }
def FnNatGcdsUptoSaid : Prop := fnNatGcdsUptoRow.holds Try.pinned (OpenSpec.upto fnNatGcdsSpec)

/-- 'laws.FnNatPows', WHERE WHAT IT READS IS OF BULK AT MOST 1048576: true; the input reads as it did. -/
def fnNatPowsUptoRow : OpenClaim := { program := "ytolciidbkhkfgaa", sum := "8d321f8d457671b4cc0832360f92c25fa8b3aab3b5a426b54a0afed3c08fc8b7", func := "loop.example/g00382/laws.FnNatPows", spec := "fnNatPows", unfollowed := true, recurses := true, apart := false, narrowed := true }
def FnNatPowsUptoSaid : Prop := fnNatPowsUptoRow.holds Try.pinned (OpenSpec.upto fnNatPowsSpec)

/-- 'laws.FnNatTexts', WHERE WHAT IT READS IS OF BULK AT MOST 1048576: true; the input reads as it did. -/
def fnNatTextsUptoRow : OpenClaim := { program := "ytolciidbkhkfgaa", sum := "8d321f8d457671b4cc0832360f92c25fa8b3aab3b5a426b54a0afed3c08fc8b7", func := "loop.example/g00382/laws.FnNatTexts", spec := "fnNatTexts", unfollowed := true, recurses := true, apart := false, narrowed := true }
def FnNatTextsUptoSaid : Prop := fnNatTextsUptoRow.holds Try.pinned (OpenSpec.upto fnNatTextsSpec)

/-- 'laws.FnExactNatOk', WHERE WHAT IT READS IS OF BULK AT MOST 1048576: true; the input reads as it did. -/
def fnExactNatOkUptoRow : OpenClaim := { program := "ytolciidbkhkfgaa", sum := "8d321f8d457671b4cc0832360f92c25fa8b3aab3b5a426b54a0afed3c08fc8b7", func := "loop.example/g00382/laws.FnExactNatOk", spec := "fnExactNatOk", apart := false, narrowed := true }
def FnExactNatOkUptoSaid : Prop := fnExactNatOkUptoRow.holds Try.pinned (OpenSpec.upto fnExactNatOkSpec)

/-- 'laws.FnExactNatOf', WHERE WHAT IT READS IS OF BULK AT MOST 1048576: true; the input reads as it did. -/
def fnExactNatOfUptoRow : OpenClaim := { program := "ytolciidbkhkfgaa", sum := "8d321f8d457671b4cc0832360f92c25fa8b3aab3b5a426b54a0afed3c08fc8b7", func := "loop.example/g00382/laws.FnExactNatOf", spec := "fnExactNatOf", apart := false, narrowed := true }
def FnExactNatOfUptoSaid : Prop := fnExactNatOfUptoRow.holds Try.pinned (OpenSpec.upto fnExactNatOfSpec)

/-- 'laws.FnExactNatInt', WHERE WHAT IT READS IS OF BULK AT MOST 1048576: true; the input reads as it did. -/
def fnExactNatIntUptoRow : OpenClaim := { program := "ytolciidbkhkfgaa", sum := "8d321f8d457671b4cc0832360f92c25fa8b3aab3b5a426b54a0afed3c08fc8b7", func := "loop.example/g00382/laws.FnExactNatInt", spec := "fnExactNatInt", apart := false, narrowed := true }
def FnExactNatIntUptoSaid : Prop := fnExactNatIntUptoRow.holds Try.pinned (OpenSpec.upto fnExactNatIntSpec)

/-- 'laws.FnExactNatCmp', WHERE WHAT IT READS IS OF BULK AT MOST 1048576: true; the input reads as it did. -/
def fnExactNatCmpUptoRow : OpenClaim := { program := "ytolciidbkhkfgaa", sum := "8d321f8d457671b4cc0832360f92c25fa8b3aab3b5a426b54a0afed3c08fc8b7", func := "loop.example/g00382/laws.FnExactNatCmp", spec := "fnExactNatCmp", apart := false, narrowed := true }
def FnExactNatCmpUptoSaid : Prop := fnExactNatCmpUptoRow.holds Try.pinned (OpenSpec.upto fnExactNatCmpSpec)

/-- 'laws.FnExactNatAdd', WHERE WHAT IT READS IS OF BULK AT MOST 1048576: true; the input reads as it did. -/
def fnExactNatAddUptoRow : OpenClaim := { program := "ytolciidbkhkfgaa", sum := "8d321f8d457671b4cc0832360f92c25fa8b3aab3b5a426b54a0afed3c08fc8b7", func := "loop.example/g00382/laws.FnExactNatAdd", spec := "fnExactNatAdd", apart := false, narrowed := true }
def FnExactNatAddUptoSaid : Prop := fnExactNatAddUptoRow.holds Try.pinned (OpenSpec.upto fnExactNatAddSpec)

/-- 'laws.FnExactNatSub', WHERE WHAT IT READS IS OF BULK AT MOST 1048576: true; the input reads as it did. -/
def fnExactNatSubUptoRow : OpenClaim := { program := "ytolciidbkhkfgaa", sum := "8d321f8d457671b4cc0832360f92c25fa8b3aab3b5a426b54a0afed3c08fc8b7", func := "loop.example/g00382/laws.FnExactNatSub", spec := "fnExactNatSub", apart := false, narrowed := true }
def FnExactNatSubUptoSaid : Prop := fnExactNatSubUptoRow.holds Try.pinned (OpenSpec.upto fnExactNatSubSpec)

/-- 'laws.FnExactNatMul', WHERE WHAT IT READS IS OF BULK AT MOST 1048576: true; the input reads as it did. -/
def fnExactNatMulUptoRow : OpenClaim := { program := "ytolciidbkhkfgaa", sum := "8d321f8d457671b4cc0832360f92c25fa8b3aab3b5a426b54a0afed3c08fc8b7", func := "loop.example/g00382/laws.FnExactNatMul", spec := "fnExactNatMul", apart := false, narrowed := true }
def FnExactNatMulUptoSaid : Prop := fnExactNatMulUptoRow.holds Try.pinned (OpenSpec.upto fnExactNatMulSpec)

/-- 'laws.FnExactNatDiv', WHERE WHAT IT READS IS OF BULK AT MOST 1048576: true; the input reads as it did. -/
def fnExactNatDivUptoRow : OpenClaim := { program := "ytolciidbkhkfgaa", sum := "8d321f8d457671b4cc0832360f92c25fa8b3aab3b5a426b54a0afed3c08fc8b7", func := "loop.example/g00382/laws.FnExactNatDiv", spec := "fnExactNatDiv", apart := false, narrowed := true }
def FnExactNatDivUptoSaid : Prop := fnExactNatDivUptoRow.holds Try.pinned (OpenSpec.upto fnExactNatDivSpec)

/-- 'laws.FnExactNatShl', WHERE WHAT IT READS IS OF BULK AT MOST 1048576: true; the input reads as it did. -/
def fnExactNatShlUptoRow : OpenClaim := { program := "ytolciidbkhkfgaa", sum := "8d321f8d457671b4cc0832360f92c25fa8b3aab3b5a426b54a0afed3c08fc8b7", func := "loop.example/g00382/laws.FnExactNatShl", spec := "fnExactNatShl", apart := false, narrowed := true }
def FnExactNatShlUptoSaid : Prop := fnExactNatShlUptoRow.holds Try.pinned (OpenSpec.upto fnExactNatShlSpec)

/-- 'laws.FnExactNatShr', WHERE WHAT IT READS IS OF BULK AT MOST 1048576: true; the input reads as it did. -/
def fnExactNatShrUptoRow : OpenClaim := { program := "ytolciidbkhkfgaa", sum := "8d321f8d457671b4cc0832360f92c25fa8b3aab3b5a426b54a0afed3c08fc8b7", func := "loop.example/g00382/laws.FnExactNatShr", spec := "fnExactNatShr", apart := false, narrowed := true }
def FnExactNatShrUptoSaid : Prop := fnExactNatShrUptoRow.holds Try.pinned (OpenSpec.upto fnExactNatShrSpec)

/-- 'laws.FnExactNatBits', WHERE WHAT IT READS IS OF BULK AT MOST 1048576: true; the input reads as it did. -/
def fnExactNatBitsUptoRow : OpenClaim := { program := "ytolciidbkhkfgaa", sum := "8d321f8d457671b4cc0832360f92c25fa8b3aab3b5a426b54a0afed3c08fc8b7", func := "loop.example/g00382/laws.FnExactNatBits", spec := "fnExactNatBits", apart := false, narrowed := true }
def FnExactNatBitsUptoSaid : Prop := fnExactNatBitsUptoRow.holds Try.pinned (OpenSpec.upto fnExactNatBitsSpec)

/-- 'laws.FnExactNatBit', WHERE WHAT IT READS IS OF BULK AT MOST 1048576: true; the input reads as it did. -/
def fnExactNatBitUptoRow : OpenClaim := { program := "ytolciidbkhkfgaa", sum := "8d321f8d457671b4cc0832360f92c25fa8b3aab3b5a426b54a0afed3c08fc8b7", func := "loop.example/g00382/laws.FnExactNatBit", spec := "fnExactNatBit", apart := false, narrowed := true }
def FnExactNatBitUptoSaid : Prop := fnExactNatBitUptoRow.holds Try.pinned (OpenSpec.upto fnExactNatBitSpec)

/-- 'laws.FnExactNatGcd', WHERE WHAT IT READS IS OF BULK AT MOST 1048576: true; the input reads as it did. -/
def fnExactNatGcdUptoRow : OpenClaim := { program := "ytolciidbkhkfgaa", sum := "8d321f8d457671b4cc0832360f92c25fa8b3aab3b5a426b54a0afed3c08fc8b7", func := "loop.example/g00382/laws.FnExactNatGcd", spec := "fnExactNatGcd", apart := false, narrowed := true }
def FnExactNatGcdUptoSaid : Prop := fnExactNatGcdUptoRow.holds Try.pinned (OpenSpec.upto fnExactNatGcdSpec)

/-- 'laws.FnExactNatRoot', WHERE WHAT IT READS IS OF BULK AT MOST 1048576: true; the input reads as it did. -/
def fnExactNatRootUptoRow : OpenClaim := { program := "ytolciidbkhkfgaa", sum := "8d321f8d457671b4cc0832360f92c25fa8b3aab3b5a426b54a0afed3c08fc8b7", func := "loop.example/g00382/laws.FnExactNatRoot", spec := "fnExactNatRoot", apart := false, narrowed := true }
def FnExactNatRootUptoSaid : Prop := fnExactNatRootUptoRow.holds Try.pinned (OpenSpec.upto fnExactNatRootSpec)

/-- 'laws.FnExactNatPow', WHERE WHAT IT READS IS OF BULK AT MOST 1048576: true; the input reads as it did. -/
def fnExactNatPowUptoRow : OpenClaim := { program := "ytolciidbkhkfgaa", sum := "8d321f8d457671b4cc0832360f92c25fa8b3aab3b5a426b54a0afed3c08fc8b7", func := "loop.example/g00382/laws.FnExactNatPow", spec := "fnExactNatPow", unfollowed := true, recurses := true, apart := false, narrowed := true }
def FnExactNatPowUptoSaid : Prop := fnExactNatPowUptoRow.holds Try.pinned (OpenSpec.upto fnExactNatPowSpec)

/-- 'laws.FnExactNatText', WHERE WHAT IT READS IS OF BULK AT MOST 1048576: true; the input reads as it did. -/
def fnExactNatTextUptoRow : OpenClaim := { program := "ytolciidbkhkfgaa", sum := "8d321f8d457671b4cc0832360f92c25fa8b3aab3b5a426b54a0afed3c08fc8b7", func := "loop.example/g00382/laws.FnExactNatText", spec := "fnExactNatText", unfollowed := true, recurses := true, apart := false, narrowed := true }
def FnExactNatTextUptoSaid : Prop := fnExactNatTextUptoRow.holds Try.pinned (OpenSpec.upto fnExactNatTextSpec)

/-- 'laws.FnExactNatRead', WHERE WHAT IT READS IS OF BULK AT MOST 1048576: true; the input reads as it did. -/
def fnExactNatReadUptoRow : OpenClaim := { program := "ytolciidbkhkfgaa", sum := "8d321f8d457671b4cc0832360f92c25fa8b3aab3b5a426b54a0afed3c08fc8b7", func := "loop.example/g00382/laws.FnExactNatRead", spec := "fnExactNatRead", apart := false, narrowed := true }
def FnExactNatReadUptoSaid : Prop := fnExactNatReadUptoRow.holds Try.pinned (OpenSpec.upto fnExactNatReadSpec)

end Rows
end Go.Proofs.Ytolciidbkhkfgaa
