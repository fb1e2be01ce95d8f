/-
  A struct of one slice of integers that came in, opened as a row that can be read.
-/
import Derived.Test.YtdhponfpikclhaaOpen
import Derived.ChangeSame
namespace Go.Proofs.Ytdhponfpikclhaa
open Go.ChangeShapes Go.WideShapes Go.ChangeAt Go.RowKit

theorem open_cells {P : Program} {W : World} {H : Type} {enc : TypeId × Value → H} {t e : TypeId} {k : IntKind} {cs : List Value} {fuel : Nat} {x : DataW H × List MemPlace}
    (ht : P.underlying t = some (.slice e)) (he : P.underlying e = some (.int k)) (hc : P.cellsOf e = 1)
    (hf : DataW.trod enc P W 0 (fun _ => true) true fuel t cs = some x) : ∃ v zs, cs = [v] ∧ Row k false 0 W.heap.size W v zs ∧ ∀ z ∈ zs, (Lit.int k z).wf = true := by
  rcases open_ints ht he hc hf with ⟨hcs, _⟩ | ⟨x, l, c, zs, hcs, _, hl, hm, hz, _, hcell, hwz⟩
  · exact ⟨_, [], hcs, Row.nil _ _ _ _ _, by simp⟩
  · subst hcs
    have hz2 : zs.length = c := by simpa using hz
    clear hz
    have hlen : (zs.take l).length = l := by simp [hz2]; omega
    refine ⟨_, zs.take l, rfl, ⟨some x, c, by rw [hlen], by rw [hlen]; exact hl, hm, fun hne => ?_⟩, fun z hz' => hwz z (List.mem_of_mem_take hz')⟩
    have hpos : 0 < l := by have := List.length_pos_iff.2 hne; omega
    obtain ⟨b, off, rfl, hc'⟩ := ints_at hcell (by omega)
    have h0 := hc' 0 (by omega)
    have hlt : b < W.heap.size := World.block_lt_of_cell? W ⟨b, off + 0, none⟩ h0
    refine ⟨b, off, rfl, Nat.zero_le _, hlt, hlt, fun i hi => ?_, fun e => by cases e⟩
    rw [hlen] at hi
    rw [hc' i (by omega)]
    simp [List.getD, hi]

theorem open_nat {P : Program} {W : World} {H : Type} {enc : TypeId × Value → H} {t e : TypeId} {f0 : Field} {k : IntKind} {rch : Reach} {base : Nat} {v : Value} {d : DataW H} {ps : List MemPlace}
    (ht : P.underlying t = some (.struct #[f0])) (ho : f0.offset = 0) (hs : P.cellsOf t = 1) (hs' : P.cellsOf f0.type = 1) (hsl : P.underlying f0.type = some (.slice e)) (he : P.underlying e = some (.int k)) (hc : P.cellsOf e = 1) (hval : Value.okWide P W rch base t v)
    (h : DataW.Trod enc P W 0 (fun _ => true) true t v d ps) : ∃ u zs, v = .agg #[u] ∧ Row k false 0 W.heap.size W u zs ∧ ∀ z ∈ zs, (Lit.int k z).wf = true := by
  obtain ⟨cs, rfl, hcs⟩ := okWide_struct ht hval
  obtain ⟨fuel, hf⟩ := h
  obtain ⟨y0, n, -, -, h0⟩ := trod_struct1 ht hf
  rw [ho, hs'] at h0
  simp only [Value.cells, List.drop_zero] at h0
  rw [hs] at hcs
  have hl : cs.toList.length = 1 := by simpa using hcs
  rw [List.take_of_length_le (by omega)] at h0
  obtain ⟨u, zs, e1, r, hw⟩ := open_cells hsl he hc h0
  refine ⟨u, zs, ?_, r, hw⟩
  congr 1
  apply Array.ext'
  rw [e1]
end Go.Proofs.Ytdhponfpikclhaa
