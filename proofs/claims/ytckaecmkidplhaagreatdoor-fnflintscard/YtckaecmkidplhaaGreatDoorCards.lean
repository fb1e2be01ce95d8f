/-
  DERIVED. GIVEN WITH THE SEED: THE CARDS: each row of YtckaecmkidplhaaGreatDoorRows.lean that lists a variable, with what it lists TIED to the program's text (the seventh form; the later family's looks); each row that meets fmt, with fmt's text TOLD by the authors' own Lean function (tested against real Go, not proved from fmt's source: count such statements apart). THE CARD IS WHAT COUNTS. Prove the row's statement (the work); the ties are given (YtckaecmkidplhaaGreatDoorTie.lean); close each card by the builder's one call (the guide's Derived/Test/ToyasCard.lean, 'card_holds'). Laid BY PROGRAM, IN A SANDBOX (cutbox-door.mjs). By AI agents, Wed Nov 11 2026. No macro, syntax, notation, axiom, sorry.
-/
import Derived.Test.YtckaecmkidplhaaGreatDoorRows
import GoSem.ClaimSeven
namespace Go.Proofs.YtckaecmkidplhaaGreatDoor
namespace Rows

/-- THE TIED CARD OF 'laws.FnFlAdds'. -/
def fnFlAddsCard : Claim7 := { stood := { row := fnFlAddsRow, standIns := [], harness := (true, "bd972b7f32dbb53f9d23ff3e4713b06671ba151fcfa9ae2b46fb45b7334fc68c"), looks := true }, kinds := [], alts := [], laidByText := true, laidKinds := [.data, .data], laidTests := true, laidLooks := .later }
def FnFlAddsCardSaid : Prop := Claim7.holds Tryz.pinned (.plain (OpenSpec.ofChange fnFlAddsSpec)) fnFlAddsCard

/-- THE TIED CARD OF 'laws.FnFmas'. -/
def fnFmasCard : Claim7 := { stood := { row := fnFmasRow, standIns := [], harness := (true, "bd972b7f32dbb53f9d23ff3e4713b06671ba151fcfa9ae2b46fb45b7334fc68c"), looks := true }, kinds := [], alts := [], laidByText := true, laidKinds := [.data, .data], laidTests := true, laidLooks := .later }
def FnFmasCardSaid : Prop := Claim7.holds Tryz.pinned (.plain (OpenSpec.ofChange fnFmasSpec)) fnFmasCard

/-- THE TIED CARD OF 'laws.FnNexts'. -/
def fnNextsCard : Claim7 := { stood := { row := fnNextsRow, standIns := [], harness := (true, "bd972b7f32dbb53f9d23ff3e4713b06671ba151fcfa9ae2b46fb45b7334fc68c"), looks := true }, kinds := [], alts := [], laidByText := true, laidKinds := [.data, .data], laidTests := true, laidLooks := .later }
def FnNextsCardSaid : Prop := Claim7.holds Tryz.pinned (.plain (OpenSpec.ofChange fnNextsSpec)) fnNextsCard

/-- THE TIED CARD OF 'laws.FnFlInts'. -/
def fnFlIntsCard : Claim7 := { stood := { row := fnFlIntsRow, standIns := [], harness := (true, "bd972b7f32dbb53f9d23ff3e4713b06671ba151fcfa9ae2b46fb45b7334fc68c"), looks := true }, kinds := [], alts := [], laidByText := true, laidKinds := [.data, .data], laidTests := true, laidLooks := .later }
def FnFlIntsCardSaid : Prop := Claim7.holds Tryz.pinned (.plain (OpenSpec.ofChange fnFlIntsSpec)) fnFlIntsCard

/-- THE TIED CARD OF 'laws.FnExactFlFma'. -/
def fnExactFlFmaCard : Claim7 := { stood := { row := fnExactFlFmaRow, standIns := [], harness := (true, "bd972b7f32dbb53f9d23ff3e4713b06671ba151fcfa9ae2b46fb45b7334fc68c"), looks := true }, kinds := [], alts := [], laidByText := true, laidKinds := [.data, .data], laidTests := true, laidLooks := .later }
def FnExactFlFmaCardSaid : Prop := Claim7.holds Tryz.pinned (.plain (OpenSpec.ofChange fnExactFlFmaSpec)) fnExactFlFmaCard

/-- THE SECOND FORM's CARD OF 'laws.FnFlAdds'. -/
def fnFlAddsUptoCard : Claim7 := { stood := { row := fnFlAddsUptoRow, standIns := [], harness := (true, "bd972b7f32dbb53f9d23ff3e4713b06671ba151fcfa9ae2b46fb45b7334fc68c"), looks := true }, kinds := [], alts := [], laidByText := true, laidKinds := [.data, .data], laidTests := true, laidLooks := .later }
def FnFlAddsUptoCardSaid : Prop := Claim7.holds Tryz.pinned (.plain (OpenSpec.upto fnFlAddsSpec)) fnFlAddsUptoCard

/-- THE SECOND FORM's CARD OF 'laws.FnFmas'. -/
def fnFmasUptoCard : Claim7 := { stood := { row := fnFmasUptoRow, standIns := [], harness := (true, "bd972b7f32dbb53f9d23ff3e4713b06671ba151fcfa9ae2b46fb45b7334fc68c"), looks := true }, kinds := [], alts := [], laidByText := true, laidKinds := [.data, .data], laidTests := true, laidLooks := .later }
def FnFmasUptoCardSaid : Prop := Claim7.holds Tryz.pinned (.plain (OpenSpec.upto fnFmasSpec)) fnFmasUptoCard

/-- THE SECOND FORM's CARD OF 'laws.FnNexts'. -/
def fnNextsUptoCard : Claim7 := { stood := { row := fnNextsUptoRow, standIns := [], harness := (true, "bd972b7f32dbb53f9d23ff3e4713b06671ba151fcfa9ae2b46fb45b7334fc68c"), looks := true }, kinds := [], alts := [], laidByText := true, laidKinds := [.data, .data], laidTests := true, laidLooks := .later }
def FnNextsUptoCardSaid : Prop := Claim7.holds Tryz.pinned (.plain (OpenSpec.upto fnNextsSpec)) fnNextsUptoCard

/-- THE SECOND FORM's CARD OF 'laws.FnFlInts'. -/
def fnFlIntsUptoCard : Claim7 := { stood := { row := fnFlIntsUptoRow, standIns := [], harness := (true, "bd972b7f32dbb53f9d23ff3e4713b06671ba151fcfa9ae2b46fb45b7334fc68c"), looks := true }, kinds := [], alts := [], laidByText := true, laidKinds := [.data, .data], laidTests := true, laidLooks := .later }
def FnFlIntsUptoCardSaid : Prop := Claim7.holds Tryz.pinned (.plain (OpenSpec.upto fnFlIntsSpec)) fnFlIntsUptoCard

/-- THE SECOND FORM's CARD OF 'laws.FnExactFlFma'. -/
def fnExactFlFmaUptoCard : Claim7 := { stood := { row := fnExactFlFmaUptoRow, standIns := [], harness := (true, "bd972b7f32dbb53f9d23ff3e4713b06671ba151fcfa9ae2b46fb45b7334fc68c"), looks := true }, kinds := [], alts := [], laidByText := true, laidKinds := [.data, .data], laidTests := true, laidLooks := .later }
def FnExactFlFmaUptoCardSaid : Prop := Claim7.holds Tryz.pinned (.plain (OpenSpec.upto fnExactFlFmaSpec)) fnExactFlFmaUptoCard
end Rows
end Go.Proofs.YtckaecmkidplhaaGreatDoor
