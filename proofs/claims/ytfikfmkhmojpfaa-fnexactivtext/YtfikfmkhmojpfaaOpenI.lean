/-
  An interval that came in, opened: of both ends the sign, the limbs as a row that can be read, the power of two.
-/
import Derived.Test.YtfikfmkhmojpfaaBD
namespace Go.Proofs.Ytfikfmkhmojpfaa
open Go.ChangeShapes Go.WideShapes Go.ChangeAt Go.RowKit

theorem dy_cells {P : Program} {W : World} {H : Type} {enc : TypeId × Value → H} {t e : TypeId} {f0 f1 g0 g1 q0 : Field} {k k2 : IntKind} {cs : List Value} {fuel : Nat} {xx : DataW H × List MemPlace}
    (ht : P.underlying t = some (.struct #[f0, f1])) (o0 : f0.offset = 0) (o1 : f1.offset = 2) (hs : P.cellsOf t = 3)
    (hm : P.underlying f0.type = some (.struct #[g0, g1])) (hm2 : P.cellsOf f0.type = 2) (p0 : g0.offset = 0) (p1 : g1.offset = 1) (hb : P.underlying g0.type = some .bool) (hb1 : P.cellsOf g0.type = 1)
    (hn : P.underlying g1.type = some (.struct #[q0])) (hn1 : P.cellsOf g1.type = 1) (og : q0.offset = 0) (hg1 : P.cellsOf q0.type = 1) (hsl : P.underlying q0.type = some (.slice e)) (he : P.underlying e = some (.int k)) (hc : P.cellsOf e = 1)
    (hi : P.underlying f1.type = some (.int k2)) (hi1 : P.cellsOf f1.type = 1)
    (hf : DataW.trod enc P W 0 (fun _ => true) true fuel t cs = some xx) : ∃ s u zs x, cs = [.bool s, u, .int k2 x] ∧ Row k false 0 W.heap.size W u zs ∧ (Lit.int k2 x).wf = true := by
  obtain ⟨y0, y1, n, -, hl, h0, h1⟩ := trod_struct2 ht hf
  rw [o0, hm2] at h0
  rw [o1, hi1] at h1
  simp only [List.drop_zero] at h0
  obtain ⟨x, e2, -, hw⟩ := DataW.trod_int hi h1
  obtain ⟨x0, x1, m, -, -, j0, j1⟩ := trod_struct2 hm h0
  rw [p0, hb1] at j0
  rw [p1, hn1] at j1
  simp only [List.drop_zero] at j0 j1
  obtain ⟨b, e0, -⟩ := DataW.trod_bool hb j0
  obtain ⟨z0, m', -, -, g⟩ := trod_struct1 hn j1
  rw [og, hg1, List.drop_zero, List.take_take] at g
  obtain ⟨u, zs, e1, r, -⟩ := open_cells hsl he hc g
  refine ⟨b, u, zs, x, ?_, r, hw⟩
  rw [hs] at hl
  match hcl : cs, hl with
  | [x, y, z], _ =>
    simp at e0 e1 e2
    rw [e0, e1, e2]

theorem open_iv {P : Program} {W : World} {H : Type} {enc : TypeId × Value → H} {t e : TypeId} {d0 d1 f0 f1 g0 g1 q0 : Field} {k k2 : IntKind} {rch : Reach} {base : Nat} {v : Value} {d : DataW H} {ps : List MemPlace}
    (hv : P.underlying t = some (.struct #[d0, d1])) (c0 : d0.offset = 0) (c1 : d1.offset = 3) (hv6 : P.cellsOf t = 6) (dd : d1.type = d0.type)
    (ht : P.underlying d0.type = some (.struct #[f0, f1])) (o0 : f0.offset = 0) (o1 : f1.offset = 2) (hs : P.cellsOf d0.type = 3)
    (hm : P.underlying f0.type = some (.struct #[g0, g1])) (hm2 : P.cellsOf f0.type = 2) (p0 : g0.offset = 0) (p1 : g1.offset = 1) (hb : P.underlying g0.type = some .bool) (hb1 : P.cellsOf g0.type = 1)
    (hn : P.underlying g1.type = some (.struct #[q0])) (hn1 : P.cellsOf g1.type = 1) (og : q0.offset = 0) (hg1 : P.cellsOf q0.type = 1) (hsl : P.underlying q0.type = some (.slice e)) (he : P.underlying e = some (.int k)) (hc : P.cellsOf e = 1)
    (hi : P.underlying f1.type = some (.int k2)) (hi1 : P.cellsOf f1.type = 1) (hval : Value.okWide P W rch base t v)
    (h : DataW.Trod enc P W 0 (fun _ => true) true t v d ps) : ∃ s u zs x s' u' zs' x', v = .agg #[.bool s, u, .int k2 x, .bool s', u', .int k2 x'] ∧ Row k false 0 W.heap.size W u zs ∧ (Lit.int k2 x).wf = true ∧ Row k false 0 W.heap.size W u' zs' ∧ (Lit.int k2 x').wf = true := by
  obtain ⟨cs, rfl, hcs⟩ := okWide_struct hv hval
  obtain ⟨fuel, hf⟩ := h
  obtain ⟨y0, y1, n, -, -, h0, h1⟩ := trod_struct2 hv hf
  rw [c0, hs] at h0
  rw [c1, dd, hs] at h1
  simp only [Value.cells, List.drop_zero] at h0 h1
  obtain ⟨s, u, zs, x, e0, r0, w0⟩ := dy_cells ht o0 o1 hs hm hm2 p0 p1 hb hb1 hn hn1 og hg1 hsl he hc hi hi1 h0
  obtain ⟨s', u', zs', x', e1, r1, w1⟩ := dy_cells ht o0 o1 hs hm hm2 p0 p1 hb hb1 hn hn1 og hg1 hsl he hc hi hi1 h1
  rw [hv6] at hcs
  refine ⟨s, u, zs, x, s', u', zs', x', ?_, r0, w0, r1, w1⟩
  have hl : cs.toList.length = 6 := by simpa using hcs
  have e3 : cs.toList = [.bool s, u, .int k2 x, .bool s', u', .int k2 x'] := by
    match hcl : cs.toList, hl with
    | [x1, x2, x3, x4, x5, x6], _ =>
      rw [hcl] at e0 e1
      simp at e0 e1
      rw [e0.1, e0.2.1, e0.2.2, e1.1, e1.2.1, e1.2.2]
  congr 1
  apply Array.ext'
  rw [e3]
end Go.Proofs.Ytfikfmkhmojpfaa
