/-
  A float that came in, opened: its four fields.
-/
import Derived.Test.YtlaelfkhlloglaaDoorBA
import Derived.Test.YtlaelfkhlloglaaDoorChecked
import Derived.ProofKit
import Derived.OpenShut
import Derived.Lib.SmallJoins
namespace Go.Proofs.YtlaelfkhlloglaaDoor
open Go.ChangeShapes Go.WideShapes Go.ChangeAt Go.RowKit Go.Joins Go.Deep

theorem open_fl {P : Program} {W : World} {H : Type} {enc : TypeId × Value → H} {t : TypeId} {f0 f1 f2 f3 : Field} {rch : Reach} {base : Nat} {v : Value} {d : DataW H} {ps : List MemPlace}
    (ht : P.underlying t = some (.struct #[f0, f1, f2, f3])) (hone : oneCellFields P #[f0, f1, f2, f3] = true) (hs : P.cellsOf t = 4)
    (h0 : P.underlying f0.type = some (.int .i64)) (h1 : P.underlying f1.type = some .bool) (h2 : P.underlying f2.type = some (.int .i64)) (h3 : P.underlying f3.type = some (.int .i64))
    (hval : Value.okWide P W rch base t v) (h : DataW.Trod enc P W 0 (fun _ => true) true t v d ps) :
    ∃ (k : Int) (n : Bool) (m e : Int), v = .agg #[.int .i64 k, .bool n, .int .i64 m, .int .i64 e] ∧ (Lit.int .i64 m).wf = true ∧ (Lit.int .i64 e).wf = true := by
  obtain ⟨c0, c1, c2, c3, y0, y1, y2, y3, l, rfl, -, -, q0, q1, q2, q3⟩ := open_agg4 ht hone hs hval h
  obtain ⟨a0, e0, -, -⟩ := DataW.trod_int h0 q0
  obtain ⟨a1, e1, -⟩ := DataW.trod_bool h1 q1
  obtain ⟨a2, e2, -, w2⟩ := DataW.trod_int h2 q2
  obtain ⟨a3, e3, -, w3⟩ := DataW.trod_int h3 q3
  simp only [List.cons.injEq, and_true] at e0 e1 e2 e3
  subst e0 e1 e2 e3
  exact ⟨a0, a1, a2, a3, rfl, w2, w3⟩

end Go.Proofs.YtlaelfkhlloglaaDoor
