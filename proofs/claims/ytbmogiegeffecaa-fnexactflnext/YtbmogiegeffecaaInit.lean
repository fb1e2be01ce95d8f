/-
  What the head of the program's text says, read word by word: facts on the program alone, cheap for the kernel.
-/
import Derived.Test.YtbmogiegeffecaaRows
import Derived.ProofKit
namespace Go.Proofs.Ytbmogiegeffecaa
open Go.RowKit

def initCodes : List Nat := [104, 97, 114, 110, 101, 115, 115, 32, 101, 100, 100, 99, 101, 56, 52, 53, 102, 52, 48, 55, 51, 48, 50, 55, 48, 49, 48, 98, 49, 49, 48, 50, 48, 54, 100, 48, 52, 55, 48, 100, 52, 102, 53, 48, 57, 50, 50, 50, 52, 55, 56, 55, 57, 98, 98, 57, 97, 98, 102, 101, 101, 99, 101, 56, 50, 57, 101, 55, 55, 49, 100, 54, 32, 99, 117, 116, 32, 97, 116, 32, 108, 111, 111, 112, 46, 101, 120, 97, 109, 112, 108, 101, 47, 103, 48, 48, 51, 56, 50, 47, 108, 97, 119, 115, 46, 70, 110, 69, 120, 97, 99, 116, 70, 108, 79, 107, 32, 108, 111, 111, 112, 46, 101, 120, 97, 109, 112, 108, 101, 47, 103, 48, 48, 51, 56, 50, 47, 108, 97, 119, 115, 46, 70, 110, 69, 120, 97, 99, 116, 70, 108, 80, 97, 99, 107, 32, 108, 111, 111, 112, 46, 101, 120, 97, 109, 112, 108, 101, 47, 103, 48, 48, 51, 56, 50, 47, 108, 97, 119, 115, 46, 70, 110, 69, 120, 97, 99, 116, 70, 108, 85, 110, 112, 97, 99, 107, 32, 108, 111, 111, 112, 46, 101, 120, 97, 109, 112, 108, 101, 47, 103, 48, 48, 51, 56, 50, 47, 108, 97, 119, 115, 46, 70, 110, 69, 120, 97, 99, 116, 70, 108, 78, 101, 120, 116, 32, 108, 111, 111, 112, 46, 101, 120, 97, 109, 112, 108, 101, 47, 103, 48, 48, 51, 56, 50, 47, 108, 97, 119, 115, 46, 70, 110, 69, 120, 97, 99, 116, 70, 108, 78, 101, 103]

theorem init_eq : Try.prog.initOrder = String.ofList (initCodes.map Char.ofNat) := by kernel_rfl
theorem words_eq : Try.prog.initOrder.toList = initCodes.map Char.ofNat := by rw [init_eq, String.toList_ofList]
theorem head_eq : behindMainWord (wordsSigns (initCodes.map Char.ofNat)) = "cut".toList :: (behindMainWord (wordsSigns (initCodes.map Char.ofNat))).tail := by kernel_rfl
theorem cut_eq : behindMainWord (wordsSigns Try.prog.initOrder.toList) = "cut".toList :: (behindMainWord (wordsSigns (initCodes.map Char.ofNat))).tail := by
  rw [words_eq]
  exact head_eq
theorem strip_cut (r : List (List Char)) : stripLifts liftWords ("cut".toList :: r) = ([], "cut".toList :: r) := by kernel_rfl
theorem make_of {P : Program} {r : List (List Char)} (h : behindMainWord (wordsSigns P.initOrder.toList) = "cut".toList :: r) : P.make = some .cut := by
  unfold Program.make
  rw [h]
  rfl
theorem lifts_of {P : Program} {r : List (List Char)} (h : behindMainWord (wordsSigns P.initOrder.toList) = "cut".toList :: r) : P.liftsFinal = false := by
  unfold Program.liftsFinal Program.headLifts
  rw [h, strip_cut]
  rfl
theorem enter_of {P : Program} {r : List (List Char)} (h : behindMainWord (wordsSigns P.initOrder.toList) = "cut".toList :: r) (h1 : P.laysLater = false) (h2 : P.bearsReflect = false) (h3 : P.doorFits [] = true) : P.mayEnter = true := by
  unfold Program.mayEnter
  rw [h]
  simp only [strip_cut, h1, h2, h3]
  rfl
theorem enter_ok : Try.prog.mayEnter = true := enter_of cut_eq (by kernel_rfl) (by kernel_rfl) (by kernel_rfl)
theorem make_ok : Try.prog.make = some .cut := make_of cut_eq
theorem lifts_ok : Try.prog.liftsFinal = false := lifts_of cut_eq

end Go.Proofs.Ytbmogiegeffecaa
