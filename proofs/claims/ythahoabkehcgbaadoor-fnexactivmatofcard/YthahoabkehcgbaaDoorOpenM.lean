/-
  A matrix that came in, opened: its size, and its numbers as a list that can be read.
-/
import Derived.Test.YthahoabkehcgbaaDoorBD
import Derived.Test.YthahoabkehcgbaaDoorBM
namespace Go.Proofs.YthahoabkehcgbaaDoor
open Go.ChangeShapes Go.WideShapes Go.ChangeAt Go.RowKit

theorem dy_cells' {P : Program} {W : World} {H : Type} {enc : TypeId × Value → H} {t e : TypeId} {f0 f1 g0 g1 q0 : Field} {k k2 : IntKind} {cs : List Value} {fuel : Nat} {xx : DataW H × List MemPlace}
    (ht : P.underlying t = some (.struct #[f0, f1])) (o0 : f0.offset = 0) (o1 : f1.offset = 2) (hs : P.cellsOf t = 3)
    (hm : P.underlying f0.type = some (.struct #[g0, g1])) (hm2 : P.cellsOf f0.type = 2) (p0 : g0.offset = 0) (p1 : g1.offset = 1) (hb : P.underlying g0.type = some .bool) (hb1 : P.cellsOf g0.type = 1)
    (hn : P.underlying g1.type = some (.struct #[q0])) (hn1 : P.cellsOf g1.type = 1) (og : q0.offset = 0) (hg1 : P.cellsOf q0.type = 1) (hsl : P.underlying q0.type = some (.slice e)) (he : P.underlying e = some (.int k)) (hc : P.cellsOf e = 1)
    (hi : P.underlying f1.type = some (.int k2)) (hi1 : P.cellsOf f1.type = 1)
    (hf : DataW.trod enc P W 0 (fun _ => true) true fuel t cs = some xx) : ∃ s u zs x, cs = [.bool s, u, .int k2 x] ∧ Row k false 0 W.heap.size W u zs ∧ (Lit.int k2 x).wf = true := by
  obtain ⟨y0, y1, n, -, hl, h0, h1⟩ := trod_struct2 ht hf
  rw [o0, hm2] at h0
  rw [o1, hi1] at h1
  simp only [List.drop_zero] at h0
  obtain ⟨x, e2, -, hw⟩ := DataW.trod_int hi h1
  obtain ⟨x0, x1, m, -, -, j0, j1⟩ := trod_struct2 hm h0
  rw [p0, hb1] at j0
  rw [p1, hn1] at j1
  simp only [List.drop_zero] at j0 j1
  obtain ⟨b, e0, -⟩ := DataW.trod_bool hb j0
  obtain ⟨z0, m', -, -, g⟩ := trod_struct1 hn j1
  rw [og, hg1, List.drop_zero, List.take_take] at g
  obtain ⟨u, zs, e1, r, -⟩ := open_cells hsl he hc g
  refine ⟨b, u, zs, x, ?_, r, hw⟩
  rw [hs] at hl
  match hcl : cs, hl with
  | [x, y, z], _ =>
    simp at e0 e1 e2
    rw [e0, e1, e2]

theorem open_mat {P : Program} {W : World} {H : Type} {enc : TypeId × Value → H} {t te e : TypeId} {m0 m1 f0 f1 g0 g1 q0 : Field} {rch : Reach} {base : Nat} {v : Value} {d : DataW H} {ps : List MemPlace}
    (hv : P.underlying t = some (.struct #[m0, m1])) (c0 : m0.offset = 0) (c1 : m1.offset = 1) (hv2 : P.cellsOf t = 2) (hN : P.underlying m0.type = some (.int .i64)) (hN1 : P.cellsOf m0.type = 1) (hS : P.underlying m1.type = some (.slice te)) (hS1 : P.cellsOf m1.type = 1)
    (ht : P.underlying te = some (.struct #[f0, f1])) (o0 : f0.offset = 0) (o1 : f1.offset = 2) (hs : P.cellsOf te = 3)
    (hm : P.underlying f0.type = some (.struct #[g0, g1])) (hm2 : P.cellsOf f0.type = 2) (p0 : g0.offset = 0) (p1 : g1.offset = 1) (hb : P.underlying g0.type = some .bool) (hb1 : P.cellsOf g0.type = 1)
    (hn : P.underlying g1.type = some (.struct #[q0])) (hn1 : P.cellsOf g1.type = 1) (og : q0.offset = 0) (hg1 : P.cellsOf q0.type = 1) (hsl : P.underlying q0.type = some (.slice e)) (he : P.underlying e = some (.int .i64)) (hc : P.cellsOf e = 1)
    (hi : P.underlying f1.type = some (.int .i64)) (hi1 : P.cellsOf f1.type = 1) (hval : Value.okWide P W rch base t v)
    (h : DataW.Trod enc P W 0 (fun _ => true) true t v d ps) : ∃ n u ds, v = .agg #[.int .i64 n, u] ∧ (Lit.int .i64 n).wf = true ∧ Dys 0 W.heap.size W u ds ∧ ∀ d ∈ ds, (Lit.int .i64 d.2.2).wf = true := by
  obtain ⟨cs, rfl, hcs⟩ := okWide_struct hv hval
  obtain ⟨fuel, hf⟩ := h
  obtain ⟨y0, y1, n, -, -, h0, h1⟩ := trod_struct2 hv hf
  rw [c0, hN1] at h0
  rw [c1, hS1] at h1
  simp only [Value.cells, List.drop_zero] at h0 h1
  obtain ⟨x, e0, -, hw⟩ := DataW.trod_int hN h0
  rw [hv2] at hcs
  have hl : cs.toList.length = 2 := by simpa using hcs
  have fin : ∀ u, (cs.toList.drop 1).take 1 = [u] → (Value.agg cs) = .agg #[.int .i64 x, u] := by
    intro u e1
    congr 1
    apply Array.ext'
    match hcl : cs.toList, hl with
    | [x1, x2], _ =>
      rw [hcl] at e0 e1
      simp at e0 e1
      rw [e0, e1]
  rcases DataW.trod_slice hS h1 with ⟨e1, -⟩ | ⟨a, len, cap, elems, rest, n', -, e1, -, -, hle, hcap, hlen, hel, -, -⟩
  · exact ⟨x, _, [], fin _ e1, hw, ⟨none, 0, rfl, Nat.le_refl _, Nat.zero_le _, fun h => absurd rfl h⟩, by simp⟩
  · -- each element's three cells
    have each : ∀ i, i < len → ∃ s u zs y, W.cells? 0 (a.add (i * 3)) 3 = some [.bool s, u, .int .i64 y] ∧ Row .i64 false 0 W.heap.size W u zs ∧ (Lit.int .i64 y).wf = true := by
      intro i hi'
      have h2 := hel i hi'
      rw [hs] at h2
      have h3 : ∃ xx, elems[i]? = some xx := ⟨_, List.getElem?_eq_getElem (by omega)⟩
      obtain ⟨xx, h3⟩ := h3
      rw [h3] at h2
      obtain ⟨cc, hcc, htr⟩ := Option.bind_eq_some_iff.1 h2
      obtain ⟨s, u, zs, y, rfl, r, hw⟩ := dy_cells' ht o0 o1 hs hm hm2 p0 p1 hb hb1 hn hn1 og hg1 hsl he hc hi hi1 htr
      exact ⟨s, u, zs, y, hcc, r, hw⟩
    have pick : ∀ k, k ≤ len → ∃ ds : List DE, ds.length = k ∧ ∀ i, i < k → (∃ u, W.cells? 0 (a.add (i * 3)) 3 = some [.bool (ds.getD i de0).1, u, .int .i64 (ds.getD i de0).2.2] ∧ Row .i64 false 0 W.heap.size W u (ds.getD i de0).2.1) ∧ (Lit.int .i64 (ds.getD i de0).2.2).wf = true := by
      intro k
      induction k with
      | zero => intro _; exact ⟨[], rfl, fun i hi => by omega⟩
      | succ k ih =>
        intro hk
        obtain ⟨ds, hd, hall⟩ := ih (by omega)
        obtain ⟨s, u, zs, y, q1, q2, q3⟩ := each k (by omega)
        refine ⟨ds ++ [(s, zs, y)], by simp [hd], fun i hi' => ?_⟩
        by_cases e : i = k
        · subst e
          have : (ds ++ [(s, zs, y)]).getD i de0 = (s, zs, y) := by simp [List.getD, ← hd]
          rw [this]
          exact ⟨⟨u, q1, q2⟩, q3⟩
        · have : (ds ++ [(s, zs, y)]).getD i de0 = ds.getD i de0 := by simp [List.getD, List.getElem?_append_left (show i < ds.length by omega)]
          rw [this]
          exact hall i (by omega)
    obtain ⟨ds, hd, hall⟩ := pick len (Nat.le_refl _)
    refine ⟨x, _, ds, fin _ e1, hw, ⟨some a, cap, by rw [hd], by omega, hcap, fun hne => ?_⟩, fun d hd' => ?_⟩
    · have hpos : 0 < len := by have := List.length_pos_iff.2 hne; omega
      obtain ⟨⟨u0, q0', -⟩, -⟩ := hall 0 hpos
      have hc0 := (World.cells?_some q0').2.2 0 (by omega)
      obtain ⟨b, off, spot⟩ := a
      have hspot : spot = none := by simpa [Addr.add] using World.cell?_spot hc0
      subst hspot
      have hlt : b < W.heap.size := by simpa [Addr.add] using World.block_lt_of_cell? W _ hc0
      refine ⟨b, off, rfl, Nat.zero_le _, hlt, hlt, fun i hi' => ?_⟩
      obtain ⟨⟨u, q1, q2⟩, -⟩ := hall i (by omega)
      have q3 := (World.cells?_some q1).2.2
      have e0 := q3 0 (by omega)
      have e1 := q3 1 (by omega)
      have e2 := q3 2 (by omega)
      rw [add_plain, add_plain] at e0 e1 e2
      exact ⟨u, e0, e1, e2, q2⟩
    · obtain ⟨i, hi', rfl⟩ := List.mem_iff_getElem.1 hd'
      have := (hall i (by omega)).2
      simpa [List.getD, hi'] using this
end Go.Proofs.YthahoabkehcgbaaDoor
