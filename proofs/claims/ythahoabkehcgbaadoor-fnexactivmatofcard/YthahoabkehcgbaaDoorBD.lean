/-
  Contracts that the proofs of this seat share: Open, OpenN, OpenW, OpenD, Init.
-/
import Derived.Test.YthahoabkehcgbaaDoorBA
import Derived.ProofKit
import Derived.OpenShut
import Derived.Carry
import Derived.WalkSmall
import Derived.ChangeSame
import Derived.Test.YthahoabkehcgbaaDoorRows
namespace Go.Proofs.YthahoabkehcgbaaDoor
open Go.ChangeShapes Go.WideShapes Go.ChangeAt Go.RowKit

theorem open_row {P : Program} {W : World} {H : Type} {enc : TypeId × Value → H} {t e : TypeId} {k : IntKind} {rch : Reach} {base : Nat} {v : Value} {d : DataW H} {ps : List MemPlace}
    (ht : P.underlying t = some (.slice e)) (he : P.underlying e = some (.int k)) (hc : P.cellsOf e = 1) (hval : Value.okWide P W rch base t v)
    (h : DataW.Trod enc P W 0 (fun _ => true) true t v d ps) : ∃ zs, Row k false 0 W.heap.size W v zs ∧ ∀ z ∈ zs, (Lit.int k z).wf = true := by
  obtain ⟨a, len, cap, rfl⟩ := okWide_slice ht hval
  obtain ⟨fuel, hf⟩ := h
  rcases open_ints ht he hc hf with ⟨hcs, _⟩ | ⟨x, l, c, zs, hcs, _, hl, hm, hz, _, hcell, hwz⟩
  · simp [Value.cells] at hcs
    obtain ⟨rfl, rfl, rfl⟩ := hcs
    exact ⟨[], Row.nil _ _ _ _ _, by simp⟩
  · simp [Value.cells] at hcs
    obtain ⟨rfl, rfl, rfl⟩ := hcs
    have hz2 : zs.length = cap := by simpa using hz
    clear hz
    have hlen : (zs.take len).length = len := by simp [hz2]; omega
    refine ⟨zs.take len, ⟨some x, cap, by rw [hlen], by rw [hlen]; exact hl, hm, fun hne => ?_⟩, fun z hz' => hwz z (List.mem_of_mem_take hz')⟩
    have hpos : 0 < len := by have := List.length_pos_iff.2 hne; omega
    obtain ⟨b, off, rfl, hc'⟩ := ints_at hcell (by omega)
    have h0 := hc' 0 (by omega)
    have hlt : b < W.heap.size := World.block_lt_of_cell? W ⟨b, off + 0, none⟩ h0
    refine ⟨b, off, rfl, Nat.zero_le _, hlt, hlt, fun i hi => ?_, fun e => by cases e⟩
    rw [hlen] at hi
    rw [hc' i (by omega)]
    simp [List.getD, hi]

theorem vars_one {H : Type} {enc : TypeId × Value → H} {P : Program} {W : World} {n : String} {gs : List (DataW H)} {q : List MemPlace} (h : DataW.TrodVars enc P W (fun _ => true) [n] gs q) : ∃ d, gs = [d] := by
  obtain ⟨g, t, cs, fuel, d, p, e, _⟩ := trodVars_one h
  exact ⟨d, e⟩
/-- A package-level variable that was read reads so again, where nothing old has turned. -/
theorem vars_again {H : Type} {enc : TypeId × Value → H} {P : Program} {W W' : World} {n : String} {g : Nat} {t : TypeId} {d : DataW H} {q : List MemPlace} (hl : laidOutB P = true)
    (hg : P.globalNamed n = some g) (hty : (P.globals[g]?).map (·.type) = some t) (hr : P.readableRec t = true) (hrow : t < P.types.size)
    (h : DataW.TrodVars enc P W (fun _ => true) [n] [d] q) (bel : Below W.heap.size W W') : DataW.TrodVars enc P W' (fun b => decide (b < W.heap.size)) [n] [d] q := by
  obtain ⟨g', t', cs, fuel, d', p, e, h1, h2, h3, h4, rfl⟩ := trodVars_one h
  obtain rfl := Option.some.inj (hg.symm.trans h1)
  obtain rfl := Option.some.inj (hty.symm.trans h2)
  simp only [List.cons.injEq, and_true] at e
  subst e
  have hlt : ∀ x ∈ p, x.block < W.heap.size := DataW.trod_lt fuel _ _ _ h4
  have T : DataW.Trod enc P W 0 (fun _ => true) true t (.agg cs) d p := ⟨fuel, by simpa [Value.cells] using h4⟩
  obtain ⟨f', h4'⟩ := Below.trod hl hr hrow T bel hlt
  have hgW : g < W.heap.size := by
    unfold World.var? at h3
    rw [hg] at h3
    simp only [Option.bind_some] at h3
    split at h3
    · rename_i hb; exact (Array.getElem?_eq_some_iff.1 hb).1
    · cases h3
  exact trodVars_mk1 h1 h2 (var?_below bel h1 hgW h3) (by simpa [Value.cells] using h4')
end Go.Proofs.YthahoabkehcgbaaDoor

namespace Go.Proofs.YthahoabkehcgbaaDoor
open Go.ChangeShapes Go.WideShapes Go.ChangeAt Go.RowKit

theorem open_cells {P : Program} {W : World} {H : Type} {enc : TypeId × Value → H} {t e : TypeId} {k : IntKind} {cs : List Value} {fuel : Nat} {x : DataW H × List MemPlace}
    (ht : P.underlying t = some (.slice e)) (he : P.underlying e = some (.int k)) (hc : P.cellsOf e = 1)
    (hf : DataW.trod enc P W 0 (fun _ => true) true fuel t cs = some x) : ∃ v zs, cs = [v] ∧ Row k false 0 W.heap.size W v zs ∧ ∀ z ∈ zs, (Lit.int k z).wf = true := by
  rcases open_ints ht he hc hf with ⟨hcs, _⟩ | ⟨x, l, c, zs, hcs, _, hl, hm, hz, _, hcell, hwz⟩
  · exact ⟨_, [], hcs, Row.nil _ _ _ _ _, by simp⟩
  · subst hcs
    have hz2 : zs.length = c := by simpa using hz
    clear hz
    have hlen : (zs.take l).length = l := by simp [hz2]; omega
    refine ⟨_, zs.take l, rfl, ⟨some x, c, by rw [hlen], by rw [hlen]; exact hl, hm, fun hne => ?_⟩, fun z hz' => hwz z (List.mem_of_mem_take hz')⟩
    have hpos : 0 < l := by have := List.length_pos_iff.2 hne; omega
    obtain ⟨b, off, rfl, hc'⟩ := ints_at hcell (by omega)
    have h0 := hc' 0 (by omega)
    have hlt : b < W.heap.size := World.block_lt_of_cell? W ⟨b, off + 0, none⟩ h0
    refine ⟨b, off, rfl, Nat.zero_le _, hlt, hlt, fun i hi => ?_, fun e => by cases e⟩
    rw [hlen] at hi
    rw [hc' i (by omega)]
    simp [List.getD, hi]

theorem open_nat {P : Program} {W : World} {H : Type} {enc : TypeId × Value → H} {t e : TypeId} {f0 : Field} {k : IntKind} {rch : Reach} {base : Nat} {v : Value} {d : DataW H} {ps : List MemPlace}
    (ht : P.underlying t = some (.struct #[f0])) (ho : f0.offset = 0) (hs : P.cellsOf t = 1) (hs' : P.cellsOf f0.type = 1) (hsl : P.underlying f0.type = some (.slice e)) (he : P.underlying e = some (.int k)) (hc : P.cellsOf e = 1) (hval : Value.okWide P W rch base t v)
    (h : DataW.Trod enc P W 0 (fun _ => true) true t v d ps) : ∃ u zs, v = .agg #[u] ∧ Row k false 0 W.heap.size W u zs ∧ ∀ z ∈ zs, (Lit.int k z).wf = true := by
  obtain ⟨cs, rfl, hcs⟩ := okWide_struct ht hval
  obtain ⟨fuel, hf⟩ := h
  obtain ⟨y0, n, -, -, h0⟩ := trod_struct1 ht hf
  rw [ho, hs'] at h0
  simp only [Value.cells, List.drop_zero] at h0
  rw [hs] at hcs
  have hl : cs.toList.length = 1 := by simpa using hcs
  rw [List.take_of_length_le (by omega)] at h0
  obtain ⟨u, zs, e1, r, hw⟩ := open_cells hsl he hc h0
  refine ⟨u, zs, ?_, r, hw⟩
  congr 1
  apply Array.ext'
  rw [e1]
end Go.Proofs.YthahoabkehcgbaaDoor

namespace Go.Proofs.YthahoabkehcgbaaDoor
open Go.ChangeShapes Go.WideShapes Go.ChangeAt Go.RowKit

theorem open_whole {P : Program} {W : World} {H : Type} {enc : TypeId × Value → H} {t e : TypeId} {f0 f1 g0 : Field} {k : IntKind} {rch : Reach} {base : Nat} {v : Value} {d : DataW H} {ps : List MemPlace}
    (ht : P.underlying t = some (.struct #[f0, f1])) (o0 : f0.offset = 0) (o1 : f1.offset = 1) (hs : P.cellsOf t = 2) (hb : P.underlying f0.type = some .bool) (hb1 : P.cellsOf f0.type = 1)
    (hn : P.underlying f1.type = some (.struct #[g0])) (hn1 : P.cellsOf f1.type = 1) (og : g0.offset = 0) (hg1 : P.cellsOf g0.type = 1) (hsl : P.underlying g0.type = some (.slice e)) (he : P.underlying e = some (.int k)) (hc : P.cellsOf e = 1) (hval : Value.okWide P W rch base t v)
    (h : DataW.Trod enc P W 0 (fun _ => true) true t v d ps) : ∃ s u zs, v = .agg #[.bool s, u] ∧ Row k false 0 W.heap.size W u zs ∧ ∀ z ∈ zs, (Lit.int k z).wf = true := by
  obtain ⟨cs, rfl, hcs⟩ := okWide_struct ht hval
  obtain ⟨fuel, hf⟩ := h
  obtain ⟨y0, y1, n, -, -, h0, h1⟩ := trod_struct2 ht hf
  rw [o0, hb1] at h0
  rw [o1, hn1] at h1
  simp only [Value.cells, List.drop_zero] at h0 h1
  rw [hs] at hcs
  obtain ⟨b, e0, -⟩ := DataW.trod_bool hb h0
  obtain ⟨z0, m, -, -, g⟩ := trod_struct1 hn h1
  rw [og, hg1, List.drop_zero, List.take_take] at g
  obtain ⟨u, zs, e1, r, hw⟩ := open_cells hsl he hc g
  refine ⟨b, u, zs, ?_, r, hw⟩
  have hl : cs.toList.length = 2 := by simpa using hcs
  have e2 : cs.toList = [.bool b, u] := by
    match hcl : cs.toList, hl with
    | [x, y], _ =>
      rw [hcl] at e0 e1
      simp at e0 e1
      rw [e0, e1]
  congr 1
  apply Array.ext'
  rw [e2]
end Go.Proofs.YthahoabkehcgbaaDoor

namespace Go.Proofs.YthahoabkehcgbaaDoor
open Go.ChangeShapes Go.WideShapes Go.ChangeAt Go.RowKit

theorem open_dy {P : Program} {W : World} {H : Type} {enc : TypeId × Value → H} {t e : TypeId} {f0 f1 g0 g1 q0 : Field} {k k2 : IntKind} {rch : Reach} {base : Nat} {v : Value} {d : DataW H} {ps : List MemPlace}
    (ht : P.underlying t = some (.struct #[f0, f1])) (o0 : f0.offset = 0) (o1 : f1.offset = 2) (hs : P.cellsOf t = 3)
    (hm : P.underlying f0.type = some (.struct #[g0, g1])) (hm2 : P.cellsOf f0.type = 2) (p0 : g0.offset = 0) (p1 : g1.offset = 1) (hb : P.underlying g0.type = some .bool) (hb1 : P.cellsOf g0.type = 1)
    (hn : P.underlying g1.type = some (.struct #[q0])) (hn1 : P.cellsOf g1.type = 1) (og : q0.offset = 0) (hg1 : P.cellsOf q0.type = 1) (hsl : P.underlying q0.type = some (.slice e)) (he : P.underlying e = some (.int k)) (hc : P.cellsOf e = 1)
    (hi : P.underlying f1.type = some (.int k2)) (hi1 : P.cellsOf f1.type = 1) (hval : Value.okWide P W rch base t v)
    (h : DataW.Trod enc P W 0 (fun _ => true) true t v d ps) : ∃ s u zs x, v = .agg #[.bool s, u, .int k2 x] ∧ Row k false 0 W.heap.size W u zs ∧ (Lit.int k2 x).wf = true := by
  obtain ⟨cs, rfl, hcs⟩ := okWide_struct ht hval
  obtain ⟨fuel, hf⟩ := h
  obtain ⟨y0, y1, n, -, -, h0, h1⟩ := trod_struct2 ht hf
  rw [o0, hm2] at h0
  rw [o1, hi1] at h1
  simp only [Value.cells, List.drop_zero] at h0 h1
  rw [hs] at hcs
  obtain ⟨x, e2, -, hw⟩ := DataW.trod_int hi h1
  obtain ⟨x0, x1, m, -, -, j0, j1⟩ := trod_struct2 hm h0
  rw [p0, hb1] at j0
  rw [p1, hn1] at j1
  simp only [List.drop_zero] at j0 j1
  obtain ⟨b, e0, -⟩ := DataW.trod_bool hb j0
  obtain ⟨z0, m', -, -, g⟩ := trod_struct1 hn j1
  rw [og, hg1, List.drop_zero, List.take_take] at g
  obtain ⟨u, zs, e1, r, -⟩ := open_cells hsl he hc g
  refine ⟨b, u, zs, x, ?_, r, hw⟩
  have hl : cs.toList.length = 3 := by simpa using hcs
  have e3 : cs.toList = [.bool b, u, .int k2 x] := by
    match hcl : cs.toList, hl with
    | [x, y, z], _ =>
      rw [hcl] at e0 e1 e2
      simp at e0 e1 e2
      rw [e0, e1, e2]
  congr 1
  apply Array.ext'
  rw [e3]
end Go.Proofs.YthahoabkehcgbaaDoor

namespace Go.Proofs.YthahoabkehcgbaaDoor
open Go.RowKit

def initCodes : List Nat := [104, 97, 114, 110, 101, 115, 115, 32, 54, 55, 101, 48, 101, 99, 51, 50, 54, 101, 56, 102, 55, 50, 101, 49, 98, 55, 100, 56, 101, 48, 55, 52, 49, 57, 97, 55, 99, 53, 101, 101, 49, 97, 51, 57, 102, 101, 55, 97, 50, 48, 49, 98, 49, 49, 55, 50, 99, 48, 51, 50, 102, 51, 57, 54, 56, 55, 101, 49, 48, 98, 50, 54, 32, 99, 117, 116, 32, 97, 116, 32, 108, 111, 111, 112, 46, 101, 120, 97, 109, 112, 108, 101, 47, 103, 48, 48, 51, 56, 50, 47, 108, 97, 119, 115, 46, 70, 110, 69, 120, 97, 99, 116, 73, 118, 77, 97, 116, 79, 102]

theorem init_eq : Tryd.prog.initOrder = String.ofList (initCodes.map Char.ofNat) := by kernel_rfl
theorem words_eq : Tryd.prog.initOrder.toList = initCodes.map Char.ofNat := by rw [init_eq, String.toList_ofList]
theorem head_eq : behindMainWord (wordsSigns (initCodes.map Char.ofNat)) = "cut".toList :: (behindMainWord (wordsSigns (initCodes.map Char.ofNat))).tail := by kernel_rfl
theorem cut_eq : behindMainWord (wordsSigns Tryd.prog.initOrder.toList) = "cut".toList :: (behindMainWord (wordsSigns (initCodes.map Char.ofNat))).tail := by
  rw [words_eq]
  exact head_eq
theorem strip_cut (r : List (List Char)) : stripLifts liftWords ("cut".toList :: r) = ([], "cut".toList :: r) := by kernel_rfl
theorem make_of {P : Program} {r : List (List Char)} (h : behindMainWord (wordsSigns P.initOrder.toList) = "cut".toList :: r) : P.make = some .cut := by
  unfold Program.make
  rw [h]
  rfl
theorem lifts_of {P : Program} {r : List (List Char)} (h : behindMainWord (wordsSigns P.initOrder.toList) = "cut".toList :: r) : P.liftsFinal = false := by
  unfold Program.liftsFinal Program.headLifts
  rw [h, strip_cut]
  rfl
theorem enter_of {P : Program} {r : List (List Char)} (h : behindMainWord (wordsSigns P.initOrder.toList) = "cut".toList :: r) (h1 : P.laysLater = false) (h2 : P.bearsReflect = false) (h3 : P.doorFits [] = true) : P.mayEnter = true := by
  unfold Program.mayEnter
  rw [h]
  simp only [strip_cut, h1, h2, h3]
  rfl
theorem enter_ok : Tryd.prog.mayEnter = true := enter_of cut_eq (by kernel_rfl) (by kernel_rfl) (by kernel_rfl)
theorem make_ok : Tryd.prog.make = some .cut := make_of cut_eq
theorem lifts_ok : Tryd.prog.liftsFinal = false := lifts_of cut_eq

end Go.Proofs.YthahoabkehcgbaaDoor
