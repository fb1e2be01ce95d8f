/-
  A decimal number that came in, opened: its sign, its limbs as a row that can be read, its power of ten.
-/
import Derived.Test.YtbcflmpakojpfaaBD
import Derived.ProofKit
import Derived.OpenShut
import Derived.Lib.SmallJoins
namespace Go.Proofs.Ytbcflmpakojpfaa
open Go.ChangeShapes Go.WideShapes Go.ChangeAt Go.RowKit Go.Joins Go.Deep

theorem open_dec {P : Program} {W : World} {H : Type} {enc : TypeId × Value → H} {t e : TypeId} {f0 f1 f2 q0 : Field} {k k2 : IntKind} {rch : Reach} {base : Nat} {v : Value} {d : DataW H} {ps : List MemPlace}
    (ht : P.underlying t = some (.struct #[f0, f1, f2])) (hone : oneCellFields P #[f0, f1, f2] = true) (hs : P.cellsOf t = 3)
    (hb : P.underlying f0.type = some .bool) (hn : P.underlying f1.type = some (.struct #[q0])) (og : q0.offset = 0) (hg1 : P.cellsOf q0.type = 1) (hsl : P.underlying q0.type = some (.slice e)) (he : P.underlying e = some (.int k)) (hc : P.cellsOf e = 1)
    (hi : P.underlying f2.type = some (.int k2)) (hval : Value.okWide P W rch base t v)
    (h : DataW.Trod enc P W 0 (fun _ => true) true t v d ps) : ∃ s u zs x, v = .agg #[.bool s, u, .int k2 x] ∧ Row k false 0 W.heap.size W u zs ∧ (Lit.int k2 x).wf = true := by
  obtain ⟨c0, c1, c2, y0, y1, y2, l, rfl, -, -, j0, j1, j2⟩ := open_agg3 ht hone hs hval h
  obtain ⟨b, e0, -⟩ := DataW.trod_bool hb j0
  obtain ⟨x, e2, -, hw⟩ := DataW.trod_int hi j2
  obtain ⟨z0, m', -, -, g⟩ := trod_struct1 hn j1
  rw [og, hg1, List.drop_zero] at g
  obtain ⟨u, zs, e1, r, -⟩ := open_cells hsl he hc g
  simp only [List.take_succ_cons, List.take_zero, List.cons.injEq, and_true] at e0 e1 e2
  subst e0 e1 e2
  exact ⟨b, _, zs, x, rfl, r, hw⟩

end Go.Proofs.Ytbcflmpakojpfaa
