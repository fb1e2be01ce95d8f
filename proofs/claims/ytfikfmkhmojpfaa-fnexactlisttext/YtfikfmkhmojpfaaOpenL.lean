/-
  A list of numbers that came in, opened as a list that can be read.
-/
import Derived.Test.YtfikfmkhmojpfaaOpenM
namespace Go.Proofs.Ytfikfmkhmojpfaa
open Go.ChangeShapes Go.WideShapes Go.ChangeAt Go.RowKit

theorem open_list {P : Program} {W : World} {H : Type} {enc : TypeId × Value → H} {t te e : TypeId} {f0 f1 g0 g1 q0 : Field} {rch : Reach} {base : Nat} {v : Value} {d : DataW H} {ps : List MemPlace}
    (hS : P.underlying t = some (.slice te))
    (ht : P.underlying te = some (.struct #[f0, f1])) (o0 : f0.offset = 0) (o1 : f1.offset = 2) (hs : P.cellsOf te = 3)
    (hm : P.underlying f0.type = some (.struct #[g0, g1])) (hm2 : P.cellsOf f0.type = 2) (p0 : g0.offset = 0) (p1 : g1.offset = 1) (hb : P.underlying g0.type = some .bool) (hb1 : P.cellsOf g0.type = 1)
    (hn : P.underlying g1.type = some (.struct #[q0])) (hn1 : P.cellsOf g1.type = 1) (og : q0.offset = 0) (hg1 : P.cellsOf q0.type = 1) (hsl : P.underlying q0.type = some (.slice e)) (he : P.underlying e = some (.int .i64)) (hc : P.cellsOf e = 1)
    (hi : P.underlying f1.type = some (.int .i64)) (hi1 : P.cellsOf f1.type = 1) (hval : Value.okWide P W rch base t v)
    (h : DataW.Trod enc P W 0 (fun _ => true) true t v d ps) : ∃ ds, Dys 0 W.heap.size W v ds ∧ ∀ d ∈ ds, (Lit.int .i64 d.2.2).wf = true := by
  obtain ⟨a0, len0, cap0, rfl⟩ := okWide_slice hS hval
  obtain ⟨fuel, h1⟩ := h
  rcases DataW.trod_slice hS h1 with ⟨e1, -⟩ | ⟨a, len, cap, elems, rest, n', -, e1, -, -, hle, hcap, hlen, hel, -, -⟩
  · simp [Value.cells] at e1
    obtain ⟨rfl, rfl, rfl⟩ := e1
    exact ⟨[], ⟨none, 0, rfl, Nat.le_refl _, Nat.zero_le _, fun h => absurd rfl h⟩, by simp⟩
  · simp [Value.cells] at e1
    obtain ⟨rfl, e2, e3⟩ := e1
    rw [e2, e3]
    have each : ∀ i, i < len → ∃ s u zs y, W.cells? 0 (a.add (i * 3)) 3 = some [.bool s, u, .int .i64 y] ∧ Row .i64 false 0 W.heap.size W u zs ∧ (Lit.int .i64 y).wf = true := by
      intro i hi'
      have h2 := hel i hi'
      rw [hs] at h2
      have h3 : ∃ xx, elems[i]? = some xx := ⟨_, List.getElem?_eq_getElem (by omega)⟩
      obtain ⟨xx, h3⟩ := h3
      rw [h3] at h2
      obtain ⟨cc, hcc, htr⟩ := Option.bind_eq_some_iff.1 h2
      obtain ⟨s, u, zs, y, rfl, r, hw⟩ := dy_cells' ht o0 o1 hs hm hm2 p0 p1 hb hb1 hn hn1 og hg1 hsl he hc hi hi1 htr
      exact ⟨s, u, zs, y, hcc, r, hw⟩
    have pick : ∀ k, k ≤ len → ∃ ds : List DE, ds.length = k ∧ ∀ i, i < k → (∃ u, W.cells? 0 (a.add (i * 3)) 3 = some [.bool (ds.getD i de0).1, u, .int .i64 (ds.getD i de0).2.2] ∧ Row .i64 false 0 W.heap.size W u (ds.getD i de0).2.1) ∧ (Lit.int .i64 (ds.getD i de0).2.2).wf = true := by
      intro k
      induction k with
      | zero => intro _; exact ⟨[], rfl, fun i hi => by omega⟩
      | succ k ih =>
        intro hk
        obtain ⟨ds, hd, hall⟩ := ih (by omega)
        obtain ⟨s, u, zs, y, q1, q2, q3⟩ := each k (by omega)
        refine ⟨ds ++ [(s, zs, y)], by simp [hd], fun i hi' => ?_⟩
        by_cases e : i = k
        · subst e
          have : (ds ++ [(s, zs, y)]).getD i de0 = (s, zs, y) := by simp [List.getD, ← hd]
          rw [this]
          exact ⟨⟨u, q1, q2⟩, q3⟩
        · have : (ds ++ [(s, zs, y)]).getD i de0 = ds.getD i de0 := by simp [List.getD, List.getElem?_append_left (show i < ds.length by omega)]
          rw [this]
          exact hall i (by omega)
    obtain ⟨ds, hd, hall⟩ := pick len (Nat.le_refl _)
    refine ⟨ds, ⟨some a, cap, by rw [hd], by omega, hcap, fun hne => ?_⟩, fun d hd' => ?_⟩
    · have hpos : 0 < len := by have := List.length_pos_iff.2 hne; omega
      obtain ⟨⟨u0, q0', -⟩, -⟩ := hall 0 hpos
      have hc0 := (World.cells?_some q0').2.2 0 (by omega)
      obtain ⟨b, off, spot⟩ := a
      have hspot : spot = none := by simpa [Addr.add] using World.cell?_spot hc0
      subst hspot
      have hlt : b < W.heap.size := by simpa [Addr.add] using World.block_lt_of_cell? W _ hc0
      refine ⟨b, off, rfl, Nat.zero_le _, hlt, hlt, fun i hi' => ?_⟩
      obtain ⟨⟨u, q1, q2⟩, -⟩ := hall i (by omega)
      have q3 := (World.cells?_some q1).2.2
      have e0 := q3 0 (by omega)
      have e1 := q3 1 (by omega)
      have e2 := q3 2 (by omega)
      rw [add_plain, add_plain] at e0 e1 e2
      exact ⟨u, e0, e1, e2, q2⟩
    · obtain ⟨i, hi', rfl⟩ := List.mem_iff_getElem.1 hd'
      have := (hall i (by omega)).2
      simpa [List.getD, hi'] using this
end Go.Proofs.Ytfikfmkhmojpfaa
