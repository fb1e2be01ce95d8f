/-
  A slice of integers that came in, opened as a row, with its length held against what was read.
-/
import Derived.Test.YtedknfciomoofaaDoorBD
import Derived.SizedLaws
namespace Go.Proofs.YtedknfciomoofaaDoor
open Go.ChangeShapes Go.WideShapes Go.ChangeAt Go.RowKit

theorem open_row_len {P : Program} {W : World} {H : Type} {enc : TypeId × Value → H} {t e : TypeId} {k : IntKind} {rch : Reach} {base : Nat} {v : Value} {d : DataW H} {ps : List MemPlace}
    (ht : P.underlying t = some (.slice e)) (he : P.underlying e = some (.int k)) (hc : P.cellsOf e = 1) (hval : Value.okWide P W rch base t v)
    (h : DataW.Trod enc P W 0 (fun _ => true) true t v d ps) : ∃ zs, Row k false 0 W.heap.size W v zs ∧ (∀ z ∈ zs, (Lit.int k z).wf = true) ∧ (zs.length = 0 ∨ ∃ elems spare, d = .slice elems spare ∧ zs.length ≤ elems.length + spare.length) := by
  obtain ⟨zs, r, hw⟩ := open_row ht he hc hval h
  refine ⟨zs, r, hw, ?_⟩
  obtain ⟨a, len, cap, rfl⟩ := okWide_slice ht hval
  obtain ⟨a', c', e', -, -, -⟩ := r
  cases e'
  obtain ⟨fuel, hf⟩ := h
  rcases open_ints ht he hc hf with ⟨hcs, _⟩ | ⟨x, l, c, ys, hcs, _, hl, hm, hz, hx, hcell, hwz⟩
  · simp [Value.cells] at hcs
    exact .inl (by simp [hcs])
  · simp [Value.cells] at hcs
    obtain ⟨h1, h2, h3⟩ := hcs
    refine .inr ⟨_, _, (Prod.mk.inj hx).1, ?_⟩
    have hz2 : ys.length = c := by simpa using hz
    simp [lits]
    omega

end Go.Proofs.YtedknfciomoofaaDoor

