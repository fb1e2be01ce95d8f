/-
  Contracts that the proofs of this seat share: Open, OpenN, OpenW, OpenD, OpenI, Init.
-/
import Derived.Test.YtpognolidbgkkaaDoorBA
import Derived.ProofKit
import Derived.OpenShut
import Derived.Carry
import Derived.WalkSmall
import Derived.ChangeSame
import Derived.Test.YtpognolidbgkkaaDoorRows
namespace Go.Proofs.YtpognolidbgkkaaDoor
open Go.ChangeShapes Go.WideShapes Go.ChangeAt Go.RowKit

theorem open_cells {P : Program} {W : World} {H : Type} {enc : TypeId × Value → H} {t e : TypeId} {k : IntKind} {cs : List Value} {fuel : Nat} {x : DataW H × List MemPlace}
    (ht : P.underlying t = some (.slice e)) (he : P.underlying e = some (.int k)) (hc : P.cellsOf e = 1)
    (hf : DataW.trod enc P W 0 (fun _ => true) true fuel t cs = some x) : ∃ v zs, cs = [v] ∧ Row k false 0 W.heap.size W v zs ∧ ∀ z ∈ zs, (Lit.int k z).wf = true := by
  rcases open_ints ht he hc hf with ⟨hcs, _⟩ | ⟨x, l, c, zs, hcs, _, hl, hm, hz, _, hcell, hwz⟩
  · exact ⟨_, [], hcs, Row.nil _ _ _ _ _, by simp⟩
  · subst hcs
    have hz2 : zs.length = c := by simpa using hz
    clear hz
    have hlen : (zs.take l).length = l := by simp [hz2]; omega
    refine ⟨_, zs.take l, rfl, ⟨some x, c, by rw [hlen], by rw [hlen]; exact hl, hm, fun hne => ?_⟩, fun z hz' => hwz z (List.mem_of_mem_take hz')⟩
    have hpos : 0 < l := by have := List.length_pos_iff.2 hne; omega
    obtain ⟨b, off, rfl, hc'⟩ := ints_at hcell (by omega)
    have h0 := hc' 0 (by omega)
    have hlt : b < W.heap.size := World.block_lt_of_cell? W ⟨b, off + 0, none⟩ h0
    refine ⟨b, off, rfl, Nat.zero_le _, hlt, hlt, fun i hi => ?_, fun e => by cases e⟩
    rw [hlen] at hi
    rw [hc' i (by omega)]
    simp [List.getD, hi]

theorem dy_cells {P : Program} {W : World} {H : Type} {enc : TypeId × Value → H} {t e : TypeId} {f0 f1 g0 g1 q0 : Field} {k k2 : IntKind} {cs : List Value} {fuel : Nat} {xx : DataW H × List MemPlace}
    (ht : P.underlying t = some (.struct #[f0, f1])) (o0 : f0.offset = 0) (o1 : f1.offset = 2) (hs : P.cellsOf t = 3)
    (hm : P.underlying f0.type = some (.struct #[g0, g1])) (hm2 : P.cellsOf f0.type = 2) (p0 : g0.offset = 0) (p1 : g1.offset = 1) (hb : P.underlying g0.type = some .bool) (hb1 : P.cellsOf g0.type = 1)
    (hn : P.underlying g1.type = some (.struct #[q0])) (hn1 : P.cellsOf g1.type = 1) (og : q0.offset = 0) (hg1 : P.cellsOf q0.type = 1) (hsl : P.underlying q0.type = some (.slice e)) (he : P.underlying e = some (.int k)) (hc : P.cellsOf e = 1)
    (hi : P.underlying f1.type = some (.int k2)) (hi1 : P.cellsOf f1.type = 1)
    (hf : DataW.trod enc P W 0 (fun _ => true) true fuel t cs = some xx) : ∃ s u zs x, cs = [.bool s, u, .int k2 x] ∧ Row k false 0 W.heap.size W u zs ∧ (Lit.int k2 x).wf = true := by
  obtain ⟨y0, y1, n, -, hl, h0, h1⟩ := trod_struct2 ht hf
  rw [o0, hm2] at h0
  rw [o1, hi1] at h1
  simp only [List.drop_zero] at h0
  obtain ⟨x, e2, -, hw⟩ := DataW.trod_int hi h1
  obtain ⟨x0, x1, m, -, -, j0, j1⟩ := trod_struct2 hm h0
  rw [p0, hb1] at j0
  rw [p1, hn1] at j1
  simp only [List.drop_zero] at j0 j1
  obtain ⟨b, e0, -⟩ := DataW.trod_bool hb j0
  obtain ⟨z0, m', -, -, g⟩ := trod_struct1 hn j1
  rw [og, hg1, List.drop_zero, List.take_take] at g
  obtain ⟨u, zs, e1, r, -⟩ := open_cells hsl he hc g
  refine ⟨b, u, zs, x, ?_, r, hw⟩
  rw [hs] at hl
  match hcl : cs, hl with
  | [x, y, z], _ =>
    simp at e0 e1 e2
    rw [e0, e1, e2]

theorem open_iv {P : Program} {W : World} {H : Type} {enc : TypeId × Value → H} {t e : TypeId} {d0 d1 f0 f1 g0 g1 q0 : Field} {k k2 : IntKind} {rch : Reach} {base : Nat} {v : Value} {d : DataW H} {ps : List MemPlace}
    (hv : P.underlying t = some (.struct #[d0, d1])) (c0 : d0.offset = 0) (c1 : d1.offset = 3) (hv6 : P.cellsOf t = 6) (dd : d1.type = d0.type)
    (ht : P.underlying d0.type = some (.struct #[f0, f1])) (o0 : f0.offset = 0) (o1 : f1.offset = 2) (hs : P.cellsOf d0.type = 3)
    (hm : P.underlying f0.type = some (.struct #[g0, g1])) (hm2 : P.cellsOf f0.type = 2) (p0 : g0.offset = 0) (p1 : g1.offset = 1) (hb : P.underlying g0.type = some .bool) (hb1 : P.cellsOf g0.type = 1)
    (hn : P.underlying g1.type = some (.struct #[q0])) (hn1 : P.cellsOf g1.type = 1) (og : q0.offset = 0) (hg1 : P.cellsOf q0.type = 1) (hsl : P.underlying q0.type = some (.slice e)) (he : P.underlying e = some (.int k)) (hc : P.cellsOf e = 1)
    (hi : P.underlying f1.type = some (.int k2)) (hi1 : P.cellsOf f1.type = 1) (hval : Value.okWide P W rch base t v)
    (h : DataW.Trod enc P W 0 (fun _ => true) true t v d ps) : ∃ s u zs x s' u' zs' x', v = .agg #[.bool s, u, .int k2 x, .bool s', u', .int k2 x'] ∧ Row k false 0 W.heap.size W u zs ∧ (Lit.int k2 x).wf = true ∧ Row k false 0 W.heap.size W u' zs' ∧ (Lit.int k2 x').wf = true := by
  obtain ⟨cs, rfl, hcs⟩ := okWide_struct hv hval
  obtain ⟨fuel, hf⟩ := h
  obtain ⟨y0, y1, n, -, -, h0, h1⟩ := trod_struct2 hv hf
  rw [c0, hs] at h0
  rw [c1, dd, hs] at h1
  simp only [Value.cells, List.drop_zero] at h0 h1
  obtain ⟨s, u, zs, x, e0, r0, w0⟩ := dy_cells ht o0 o1 hs hm hm2 p0 p1 hb hb1 hn hn1 og hg1 hsl he hc hi hi1 h0
  obtain ⟨s', u', zs', x', e1, r1, w1⟩ := dy_cells ht o0 o1 hs hm hm2 p0 p1 hb hb1 hn hn1 og hg1 hsl he hc hi hi1 h1
  rw [hv6] at hcs
  refine ⟨s, u, zs, x, s', u', zs', x', ?_, r0, w0, r1, w1⟩
  have hl : cs.toList.length = 6 := by simpa using hcs
  have e3 : cs.toList = [.bool s, u, .int k2 x, .bool s', u', .int k2 x'] := by
    match hcl : cs.toList, hl with
    | [x1, x2, x3, x4, x5, x6], _ =>
      rw [hcl] at e0 e1
      simp at e0 e1
      rw [e0.1, e0.2.1, e0.2.2, e1.1, e1.2.1, e1.2.2]
  congr 1
  apply Array.ext'
  rw [e3]
open Go.RowKit

def initCodes : List Nat := [104, 97, 114, 110, 101, 115, 115, 32, 99, 100, 49, 57, 57, 54, 54, 52, 56, 48, 97, 101, 57, 54, 102, 101, 54, 52, 54, 52, 54, 54, 53, 54, 48, 54, 56, 49, 51, 98, 99, 98, 98, 49, 52, 102, 100, 48, 98, 48, 56, 102, 48, 100, 55, 99, 53, 55, 98, 52, 54, 99, 48, 56, 97, 100, 50, 49, 54, 55, 54, 55, 49, 102, 32, 99, 117, 116, 32, 97, 116, 32, 108, 111, 111, 112, 46, 101, 120, 97, 109, 112, 108, 101, 47, 103, 48, 48, 51, 56, 50, 47, 108, 97, 119, 115, 46, 70, 110, 69, 120, 97, 99, 116, 73, 118, 77, 117, 108]

theorem init_eq : Tryd.prog.initOrder = String.ofList (initCodes.map Char.ofNat) := by kernel_rfl
theorem words_eq : Tryd.prog.initOrder.toList = initCodes.map Char.ofNat := by rw [init_eq, String.toList_ofList]
theorem head_eq : behindMainWord (wordsSigns (initCodes.map Char.ofNat)) = "cut".toList :: (behindMainWord (wordsSigns (initCodes.map Char.ofNat))).tail := by kernel_rfl
theorem cut_eq : behindMainWord (wordsSigns Tryd.prog.initOrder.toList) = "cut".toList :: (behindMainWord (wordsSigns (initCodes.map Char.ofNat))).tail := by
  rw [words_eq]
  exact head_eq
theorem strip_cut (r : List (List Char)) : stripLifts liftWords ("cut".toList :: r) = ([], "cut".toList :: r) := by kernel_rfl
theorem make_of {P : Program} {r : List (List Char)} (h : behindMainWord (wordsSigns P.initOrder.toList) = "cut".toList :: r) : P.make = some .cut := by
  unfold Program.make
  rw [h]
  rfl
theorem lifts_of {P : Program} {r : List (List Char)} (h : behindMainWord (wordsSigns P.initOrder.toList) = "cut".toList :: r) : P.liftsFinal = false := by
  unfold Program.liftsFinal Program.headLifts
  rw [h, strip_cut]
  rfl
theorem enter_of {P : Program} {r : List (List Char)} (h : behindMainWord (wordsSigns P.initOrder.toList) = "cut".toList :: r) (h1 : P.laysLater = false) (h2 : P.bearsReflect = false) (h3 : P.doorFits [] = true) : P.mayEnter = true := by
  unfold Program.mayEnter
  rw [h]
  simp only [strip_cut, h1, h2, h3]
  rfl
theorem enter_ok : Tryd.prog.mayEnter = true := enter_of cut_eq (by kernel_rfl) (by kernel_rfl) (by kernel_rfl)
theorem make_ok : Tryd.prog.make = some .cut := make_of cut_eq
theorem lifts_ok : Tryd.prog.liftsFinal = false := lifts_of cut_eq

end Go.Proofs.YtpognolidbgkkaaDoor

