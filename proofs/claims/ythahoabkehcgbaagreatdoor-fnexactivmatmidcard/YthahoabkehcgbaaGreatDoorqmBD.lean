/-
  Contracts that the proofs of this seat share: Open, OpenN, OpenW, OpenD, Init.
-/
import Derived.Test.YthahoabkehcgbaaGreatDoorqmBA
import Derived.ProofKit
import Derived.OpenShut
import Derived.Carry
import Derived.WalkSmall
import Derived.ChangeSame
import Derived.Test.YthahoabkehcgbaaGreatDoorRows
namespace Go.Proofs.YthahoabkehcgbaaGreatDoor
open Go.ChangeShapes Go.WideShapes Go.ChangeAt Go.RowKit

end Go.Proofs.YthahoabkehcgbaaGreatDoor

namespace Go.Proofs.YthahoabkehcgbaaGreatDoor
open Go.ChangeShapes Go.WideShapes Go.ChangeAt Go.RowKit

theorem open_cells {P : Program} {W : World} {H : Type} {enc : TypeId × Value → H} {t e : TypeId} {k : IntKind} {cs : List Value} {fuel : Nat} {x : DataW H × List MemPlace}
    (ht : P.underlying t = some (.slice e)) (he : P.underlying e = some (.int k)) (hc : P.cellsOf e = 1)
    (hf : DataW.trod enc P W 0 (fun _ => true) true fuel t cs = some x) : ∃ v zs, cs = [v] ∧ Row k false 0 W.heap.size W v zs ∧ ∀ z ∈ zs, (Lit.int k z).wf = true := by
  rcases open_ints ht he hc hf with ⟨hcs, _⟩ | ⟨x, l, c, zs, hcs, _, hl, hm, hz, _, hcell, hwz⟩
  · exact ⟨_, [], hcs, Row.nil _ _ _ _ _, by simp⟩
  · subst hcs
    have hz2 : zs.length = c := by simpa using hz
    clear hz
    have hlen : (zs.take l).length = l := by simp [hz2]; omega
    refine ⟨_, zs.take l, rfl, ⟨some x, c, by rw [hlen], by rw [hlen]; exact hl, hm, fun hne => ?_⟩, fun z hz' => hwz z (List.mem_of_mem_take hz')⟩
    have hpos : 0 < l := by have := List.length_pos_iff.2 hne; omega
    obtain ⟨b, off, rfl, hc'⟩ := ints_at hcell (by omega)
    have h0 := hc' 0 (by omega)
    have hlt : b < W.heap.size := World.block_lt_of_cell? W ⟨b, off + 0, none⟩ h0
    refine ⟨b, off, rfl, Nat.zero_le _, hlt, hlt, fun i hi => ?_, fun e => by cases e⟩
    rw [hlen] at hi
    rw [hc' i (by omega)]
    simp [List.getD, hi]

end Go.Proofs.YthahoabkehcgbaaGreatDoor

namespace Go.Proofs.YthahoabkehcgbaaGreatDoor
open Go.ChangeShapes Go.WideShapes Go.ChangeAt Go.RowKit

end Go.Proofs.YthahoabkehcgbaaGreatDoor

namespace Go.Proofs.YthahoabkehcgbaaGreatDoor
open Go.ChangeShapes Go.WideShapes Go.ChangeAt Go.RowKit

end Go.Proofs.YthahoabkehcgbaaGreatDoor

namespace Go.Proofs.YthahoabkehcgbaaGreatDoor
open Go.RowKit

def initCodes : List Nat := [104, 97, 114, 110, 101, 115, 115, 32, 97, 55, 100, 101, 52, 52, 53, 56, 100, 99, 100, 56, 55, 101, 49, 49, 48, 49, 52, 48, 48, 102, 54, 101, 98, 97, 52, 97, 51, 52, 49, 53, 101, 55, 54, 52, 52, 55, 101, 57, 56, 99, 97, 100, 49, 102, 53, 48, 57, 101, 99, 99, 53, 55, 101, 99, 48, 52, 99, 50, 101, 101, 101, 99, 32, 99, 117, 116, 32, 97, 116, 32, 108, 111, 111, 112, 46, 101, 120, 97, 109, 112, 108, 101, 47, 103, 48, 48, 51, 56, 50, 47, 108, 97, 119, 115, 46, 70, 110, 69, 120, 97, 99, 116, 73, 118, 77, 97, 116, 65, 100, 100, 32, 108, 111, 111, 112, 46, 101, 120, 97, 109, 112, 108, 101, 47, 103, 48, 48, 51, 56, 50, 47, 108, 97, 119, 115, 46, 70, 110, 69, 120, 97, 99, 116, 73, 118, 77, 97, 116, 77, 117, 108, 32, 108, 111, 111, 112, 46, 101, 120, 97, 109, 112, 108, 101, 47, 103, 48, 48, 51, 56, 50, 47, 108, 97, 119, 115, 46, 70, 110, 69, 120, 97, 99, 116, 73, 118, 77, 97, 116, 68, 105, 118, 32, 108, 111, 111, 112, 46, 101, 120, 97, 109, 112, 108, 101, 47, 103, 48, 48, 51, 56, 50, 47, 108, 97, 119, 115, 46, 70, 110, 69, 120, 97, 99, 116, 73, 118, 77, 97, 116, 79, 117, 116, 32, 108, 111, 111, 112, 46, 101, 120, 97, 109, 112, 108, 101, 47, 103, 48, 48, 51, 56, 50, 47, 108, 97, 119, 115, 46, 70, 110, 69, 120, 97, 99, 116, 73, 118, 77, 97, 116, 70, 97, 116, 32, 108, 111, 111, 112, 46, 101, 120, 97, 109, 112, 108, 101, 47, 103, 48, 48, 51, 56, 50, 47, 108, 97, 119, 115, 46, 70, 110, 69, 120, 97, 99, 116, 73, 118, 77, 97, 116, 77, 105, 100, 32, 108, 111, 111, 112, 46, 101, 120, 97, 109, 112, 108, 101, 47, 103, 48, 48, 51, 56, 50, 47, 108, 97, 119, 115, 46, 70, 110, 69, 120, 97, 99, 116, 73, 118, 77, 97, 116, 87, 105, 100, 101]

theorem init_eq : Tryz.prog.initOrder = String.ofList (initCodes.map Char.ofNat) := by kernel_rfl
theorem words_eq : Tryz.prog.initOrder.toList = initCodes.map Char.ofNat := by rw [init_eq, String.toList_ofList]
theorem head_eq : behindMainWord (wordsSigns (initCodes.map Char.ofNat)) = "cut".toList :: (behindMainWord (wordsSigns (initCodes.map Char.ofNat))).tail := by kernel_rfl
theorem cut_eq : behindMainWord (wordsSigns Tryz.prog.initOrder.toList) = "cut".toList :: (behindMainWord (wordsSigns (initCodes.map Char.ofNat))).tail := by
  rw [words_eq]
  exact head_eq
theorem strip_cut (r : List (List Char)) : stripLifts liftWords ("cut".toList :: r) = ([], "cut".toList :: r) := by kernel_rfl
theorem make_of {P : Program} {r : List (List Char)} (h : behindMainWord (wordsSigns P.initOrder.toList) = "cut".toList :: r) : P.make = some .cut := by
  unfold Program.make
  rw [h]
  rfl
theorem lifts_of {P : Program} {r : List (List Char)} (h : behindMainWord (wordsSigns P.initOrder.toList) = "cut".toList :: r) : P.liftsFinal = false := by
  unfold Program.liftsFinal Program.headLifts
  rw [h, strip_cut]
  rfl
theorem enter_of {P : Program} {r : List (List Char)} (h : behindMainWord (wordsSigns P.initOrder.toList) = "cut".toList :: r) (h1 : P.laysLater = false) (h2 : P.bearsReflect = false) (h3 : P.doorFits [] = true) : P.mayEnter = true := by
  unfold Program.mayEnter
  rw [h]
  simp only [strip_cut, h1, h2, h3]
  rfl
theorem enter_ok : Tryz.prog.mayEnter = true := enter_of cut_eq (by kernel_rfl) (by kernel_rfl) (by kernel_rfl)
theorem make_ok : Tryz.prog.make = some .cut := make_of cut_eq
theorem lifts_ok : Tryz.prog.liftsFinal = false := lifts_of cut_eq

end Go.Proofs.YthahoabkehcgbaaGreatDoor

