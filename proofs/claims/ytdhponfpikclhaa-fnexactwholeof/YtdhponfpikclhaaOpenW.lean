/-
  A whole number that came in, opened: its sign, and its limbs as a row that can be read.
-/
import Derived.Test.YtdhponfpikclhaaOpenN
namespace Go.Proofs.Ytdhponfpikclhaa
open Go.ChangeShapes Go.WideShapes Go.ChangeAt Go.RowKit

theorem open_whole {P : Program} {W : World} {H : Type} {enc : TypeId × Value → H} {t e : TypeId} {f0 f1 g0 : Field} {k : IntKind} {rch : Reach} {base : Nat} {v : Value} {d : DataW H} {ps : List MemPlace}
    (ht : P.underlying t = some (.struct #[f0, f1])) (o0 : f0.offset = 0) (o1 : f1.offset = 1) (hs : P.cellsOf t = 2) (hb : P.underlying f0.type = some .bool) (hb1 : P.cellsOf f0.type = 1)
    (hn : P.underlying f1.type = some (.struct #[g0])) (hn1 : P.cellsOf f1.type = 1) (og : g0.offset = 0) (hg1 : P.cellsOf g0.type = 1) (hsl : P.underlying g0.type = some (.slice e)) (he : P.underlying e = some (.int k)) (hc : P.cellsOf e = 1) (hval : Value.okWide P W rch base t v)
    (h : DataW.Trod enc P W 0 (fun _ => true) true t v d ps) : ∃ s u zs, v = .agg #[.bool s, u] ∧ Row k false 0 W.heap.size W u zs ∧ ∀ z ∈ zs, (Lit.int k z).wf = true := by
  obtain ⟨cs, rfl, hcs⟩ := okWide_struct ht hval
  obtain ⟨fuel, hf⟩ := h
  obtain ⟨y0, y1, n, -, -, h0, h1⟩ := trod_struct2 ht hf
  rw [o0, hb1] at h0
  rw [o1, hn1] at h1
  simp only [Value.cells, List.drop_zero] at h0 h1
  rw [hs] at hcs
  obtain ⟨b, e0, -⟩ := DataW.trod_bool hb h0
  obtain ⟨z0, m, -, -, g⟩ := trod_struct1 hn h1
  rw [og, hg1, List.drop_zero, List.take_take] at g
  obtain ⟨u, zs, e1, r, hw⟩ := open_cells hsl he hc g
  refine ⟨b, u, zs, ?_, r, hw⟩
  have hl : cs.toList.length = 2 := by simpa using hcs
  have e2 : cs.toList = [.bool b, u] := by
    match hcl : cs.toList, hl with
    | [x, y], _ =>
      rw [hcl] at e0 e1
      simp at e0 e1
      rw [e0, e1]
  congr 1
  apply Array.ext'
  rw [e2]
end Go.Proofs.Ytdhponfpikclhaa
