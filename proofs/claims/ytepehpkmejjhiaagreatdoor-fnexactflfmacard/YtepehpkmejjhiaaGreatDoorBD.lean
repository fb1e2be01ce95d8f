/-
  Contracts that the proofs of this seat share: Open, OpenN, OpenW, OpenD, OpenF, Init.
-/
import Derived.Test.YtepehpkmejjhiaaGreatDoorBA
import Derived.ProofKit
import Derived.OpenShut
import Derived.Carry
import Derived.WalkSmall
import Derived.ChangeSame
import Derived.Test.YtepehpkmejjhiaaGreatDoorChecked
import Derived.Lib.SmallJoins
import Derived.Test.YtepehpkmejjhiaaGreatDoorRows
namespace Go.Proofs.YtepehpkmejjhiaaGreatDoor
open Go.ChangeShapes Go.WideShapes Go.ChangeAt Go.RowKit

open Go.ChangeShapes Go.WideShapes Go.ChangeAt Go.RowKit Go.Joins Go.Deep

theorem open_fl {P : Program} {W : World} {H : Type} {enc : TypeId × Value → H} {t : TypeId} {f0 f1 f2 f3 : Field} {rch : Reach} {base : Nat} {v : Value} {d : DataW H} {ps : List MemPlace}
    (ht : P.underlying t = some (.struct #[f0, f1, f2, f3])) (hone : oneCellFields P #[f0, f1, f2, f3] = true) (hs : P.cellsOf t = 4)
    (h0 : P.underlying f0.type = some (.int .i64)) (h1 : P.underlying f1.type = some .bool) (h2 : P.underlying f2.type = some (.int .i64)) (h3 : P.underlying f3.type = some (.int .i64))
    (hval : Value.okWide P W rch base t v) (h : DataW.Trod enc P W 0 (fun _ => true) true t v d ps) :
    ∃ (k : Int) (n : Bool) (m e : Int), v = .agg #[.int .i64 k, .bool n, .int .i64 m, .int .i64 e] ∧ (Lit.int .i64 m).wf = true ∧ (Lit.int .i64 e).wf = true := by
  obtain ⟨c0, c1, c2, c3, y0, y1, y2, y3, l, rfl, -, -, q0, q1, q2, q3⟩ := open_agg4 ht hone hs hval h
  obtain ⟨a0, e0, -, -⟩ := DataW.trod_int h0 q0
  obtain ⟨a1, e1, -⟩ := DataW.trod_bool h1 q1
  obtain ⟨a2, e2, -, w2⟩ := DataW.trod_int h2 q2
  obtain ⟨a3, e3, -, w3⟩ := DataW.trod_int h3 q3
  simp only [List.cons.injEq, and_true] at e0 e1 e2 e3
  subst e0 e1 e2 e3
  exact ⟨a0, a1, a2, a3, rfl, w2, w3⟩

open Go.RowKit

def initCodes : List Nat := [104, 97, 114, 110, 101, 115, 115, 32, 97, 57, 98, 57, 54, 49, 54, 100, 51, 51, 50, 98, 102, 99, 97, 49, 50, 49, 51, 48, 48, 55, 101, 48, 56, 102, 98, 56, 51, 101, 97, 57, 55, 56, 56, 100, 53, 100, 98, 55, 102, 97, 100, 52, 97, 55, 48, 52, 52, 50, 53, 50, 99, 100, 52, 49, 51, 102, 98, 100, 97, 48, 98, 49, 32, 99, 117, 116, 32, 97, 116, 32, 108, 111, 111, 112, 46, 101, 120, 97, 109, 112, 108, 101, 47, 103, 48, 48, 51, 56, 50, 47, 108, 97, 119, 115, 46, 70, 110, 70, 109, 97, 115, 32, 108, 111, 111, 112, 46, 101, 120, 97, 109, 112, 108, 101, 47, 103, 48, 48, 51, 56, 50, 47, 108, 97, 119, 115, 46, 70, 110, 78, 101, 120, 116, 115, 32, 108, 111, 111, 112, 46, 101, 120, 97, 109, 112, 108, 101, 47, 103, 48, 48, 51, 56, 50, 47, 108, 97, 119, 115, 46, 70, 110, 69, 120, 97, 99, 116, 70, 108, 70, 109, 97]

theorem init_eq : Tryz.prog.initOrder = String.ofList (initCodes.map Char.ofNat) := by kernel_rfl
theorem words_eq : Tryz.prog.initOrder.toList = initCodes.map Char.ofNat := by rw [init_eq, String.toList_ofList]
theorem head_eq : behindMainWord (wordsSigns (initCodes.map Char.ofNat)) = "cut".toList :: (behindMainWord (wordsSigns (initCodes.map Char.ofNat))).tail := by kernel_rfl
theorem cut_eq : behindMainWord (wordsSigns Tryz.prog.initOrder.toList) = "cut".toList :: (behindMainWord (wordsSigns (initCodes.map Char.ofNat))).tail := by
  rw [words_eq]
  exact head_eq
theorem strip_cut (r : List (List Char)) : stripLifts liftWords ("cut".toList :: r) = ([], "cut".toList :: r) := by kernel_rfl
theorem make_of {P : Program} {r : List (List Char)} (h : behindMainWord (wordsSigns P.initOrder.toList) = "cut".toList :: r) : P.make = some .cut := by
  unfold Program.make
  rw [h]
  rfl
theorem lifts_of {P : Program} {r : List (List Char)} (h : behindMainWord (wordsSigns P.initOrder.toList) = "cut".toList :: r) : P.liftsFinal = false := by
  unfold Program.liftsFinal Program.headLifts
  rw [h, strip_cut]
  rfl
theorem enter_of {P : Program} {r : List (List Char)} (h : behindMainWord (wordsSigns P.initOrder.toList) = "cut".toList :: r) (h1 : P.laysLater = false) (h2 : P.bearsReflect = false) (h3 : P.doorFits [] = true) : P.mayEnter = true := by
  unfold Program.mayEnter
  rw [h]
  simp only [strip_cut, h1, h2, h3]
  rfl
theorem enter_ok : Tryz.prog.mayEnter = true := enter_of cut_eq (by kernel_rfl) (by kernel_rfl) (by kernel_rfl)
theorem make_ok : Tryz.prog.make = some .cut := make_of cut_eq
theorem lifts_ok : Tryz.prog.liftsFinal = false := lifts_of cut_eq

end Go.Proofs.YtepehpkmejjhiaaGreatDoor

