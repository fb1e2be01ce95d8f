/-
  Contracts that the proofs of this seat share: Ml8, Ml9.
-/
import Derived.Test.YtefnblaphkookaaGreatDoorMam
import Derived.Test.YtefnblaphkookaaGreatDoorBC
import Derived.Deep.DeepCutAuto
import Derived.Deep.RegionHeld3
import Derived.Test.YtefnblaphkookaaGreatDoorBO
namespace Go.Proofs.YtefnblaphkookaaGreatDoor
open Go.RowKit
set_option linter.unusedVariables false
set_option maxRecDepth 8000
set_option linter.unusedSimpArgs false

theorem in_l4mulM : ∀ (w : World) (args : Array Value), (callFunc 29 args).run Tryz.prog w = .ok (.enter 29 args) w := enters Tryz.func29 (by decide) (fun h => by cases h)

theorem mul_nE {a b : DE} (h1 : dOkE a = true) (h2 : dOkE b = true) : nE (wval a.1 a.2.1 * wval b.1 b.2.1) (a.2.2 + b.2.2) = nE (dv (-3000) a * dv (-3000) b) (-6000) := by
  have i1 := (dok_nv h1 (Int.le_refl (-3000))).1
  have i2 := (dok_nv h2 (Int.le_refl (-3000))).1
  have g1 := i1.1
  have g2 := i2.1
  have e : dv (-3000) a * dv (-3000) b = wval a.1 a.2.1 * wval b.1 b.2.1 * 2 ^ (a.2.2 + b.2.2 + 6000).toNat := by
    unfold dv
    rw [show (a.2.2 + b.2.2 + 6000).toNat = (a.2.2 - -3000).toNat + (b.2.2 - -3000).toNat by omega, Int.pow_add]
    ac_rfl
  rw [e, ← nE_shift _ (a.2.2 + b.2.2) (a.2.2 + b.2.2 + 6000).toNat, show a.2.2 + b.2.2 - ((a.2.2 + b.2.2 + 6000).toNat : Int) = -6000 by omega]
theorem nE_zero (L : Int) : nE 0 L = (false, [], 0) := by unfold nE; rw [dlm_zero]; rfl
/-- The box X holds V in its one form. -/
def BoxV (lo : Nat) (w : World) (X : Nat) (V : Int) : Prop :=
  ∃ a c, w.cell? ⟨X, 0, none⟩ = some (.bool (nE V (-6000)).1) ∧ w.cell? ⟨X, 1, none⟩ = some (.slice a (nE V (-6000)).2.1.length c) ∧ w.cell? ⟨X, 2, none⟩ = some (.int .i64 (nE V (-6000)).2.2) ∧ Row .i64 true lo w.heap.size w (.slice a (nE V (-6000)).2.1.length c) (nE V (-6000)).2.1

set_option maxHeartbeats 32000000 in
theorem mul8_spec {k lo1 hi1 lo2 hi2 : Nat} {v1 v2 : Value} {ds1 ds2 : List DE} (n2 : Int) (w : World) (hk0 : 0 < k) (hk : k ≤ 4) (hl1 : ds1.length = k * k) (hl2 : ds2.length = k * k) (U1 : ∀ i, i < ds1.length → dokB (ds1.getD i de0).1 (ds1.getD i de0).2.1 (ds1.getD i de0).2.2 = true) (U2 : ∀ i, i < ds2.length → dokB (ds2.getD i de0).1 (ds2.getD i de0).2.1 (ds2.getD i de0).2.2 = true) (r1 : Dys lo1 hi1 w v1 ds1) (r2 : Dys lo2 hi2 w v2 ds2) :
    Calls Tryz.prog 14 #[.agg #[.int .i64 (k : Int), v1], .agg #[.int .i64 n2, v2]] w fun e w' => ∃ v', e = .returned (.agg #[.int .i64 (k : Int), v']) ∧ DysO w.heap.size w'.heap.size w' v' ((List.range (k * k)).map fun p => nE (mulV k ds1 ds2 p) (-6000)) ∧ Kept 0 0 w w' := by
  obtain ⟨W, hW⟩ : ∃ W, W = ((w.alloc (.cells #[.int .i64 (k : Int), v1] 28)).alloc (.cells #[.int .i64 n2, v2] 28)).alloc (.cells #[.int .i64 0, .slice none 0 0] 28) := ⟨_, rfl⟩
  have k0 : Kept 0 0 w W := by rw [hW]; exact (((Kept.refl 0 0 w).alloc _).alloc _).alloc _
  have c0 : W.cell? ⟨w.heap.size, 0, none⟩ = some (.int .i64 (k : Int)) := by rw [hW]; exact old_cell _ (old_cell _ (new_cell2 _ _ _ _ _ _ (by simp) rfl))
  have c1 : W.cell? ⟨w.heap.size, 1, none⟩ = some v1 := by rw [hW]; exact old_cell _ (old_cell _ (new_cell2 _ _ _ _ _ _ (by simp) rfl))
  have d1 : W.cell? ⟨w.heap.size + 1, 1, none⟩ = some v2 := by rw [hW]; exact old_cell _ (new_cell2 _ _ _ _ _ _ (by simp) rfl)
  have q0 : W.cell? ⟨w.heap.size + 1 + 1, 0, none⟩ = some (.int .i64 0) := by rw [hW]; exact new_cell2 _ _ _ _ _ _ (by simp) rfl
  have q1 : W.cell? ⟨w.heap.size + 1 + 1, 1, none⟩ = some (.slice none 0 0) := by rw [hW]; exact new_cell2 _ _ _ _ _ _ (by simp) rfl
  have f0 : W.frozen? ⟨w.heap.size + 1 + 1, 0, none⟩ = false := by rw [hW]; exact new_loose2 _ _ _ _ _ (by simp)
  have f1 : W.frozen? ⟨w.heap.size + 1 + 1, 1, none⟩ = false := by rw [hW]; exact new_loose2 _ _ _ _ _ (by simp)
  have sW : W.heap.size = w.heap.size + 3 := by rw [hW]; simp
  have h16 : k * k ≤ 4 * 4 := Nat.mul_le_mul hk hk
  obtain ⟨n, hnn⟩ : ∃ n, n = k * k := ⟨_, rfl⟩
  obtain ⟨PL, hPL⟩ : ∃ PL, PL = (List.range n).map fun p => nE (mulV k ds1 ds2 p) (-6000) := ⟨_, rfl⟩
  have hn8 := new8_spec hk W PL
  rw [← hnn] at hn8 h16 hl1 hl2 ⊢
  rw [← hPL]
  obtain ⟨a1, e1, rfl, -, -⟩ := r1.form
  obtain ⟨a2, e2, rfl, -, -⟩ := r2.form
  rw [hl1] at r1 c1 hW
  rw [hl2] at r2 d1 hW
  rw [hl1, hl2]
  have R1 := hide r1
  have R2 := hide r2
  have HPL := hide hPL
  have HNN := hide hnn
  have HU1 : Hid (∀ p, p < k * k → dOkE (ds1.getD p de0) = true) := fun p hp => U1 p (by omega)
  have HU2 : Hid (∀ p, p < k * k → dOkE (ds2.getD p de0) = true) := fun p hp => U2 p (by omega)
  have HL1 := hide hl1
  have HL2 := hide hl2
  have SW := hide sW
  have HPN := hide (show n = PL.length by rw [hPL]; simp)
  rw [hW] at hn8
  clear r1 r2 hPL U1 U2 sW hl1 hl2 hnn
  go_enter Tryz.func14, Tryz.ntmps14
  go_wp2_with fail
  refine hn8.mono ?_
  rw [← hW]
  rintro e w1 ⟨g, rfl, F0, hg, k1⟩
  clear hn8 hW
  obtain ⟨O, hO⟩ : ∃ O, O = w1.heap.size := ⟨_, rfl⟩
  have o0 : (w1.alloc (.cells #[.int .i64 (k : Int), .slice (some ⟨g, 0, none⟩) n n] 28)).cell? ⟨O, 0, none⟩ = some (.int .i64 (k : Int)) := new_cell2 _ _ _ _ _ _ hO rfl
  have o1 : (w1.alloc (.cells #[.int .i64 (k : Int), .slice (some ⟨g, 0, none⟩) n n] 28)).cell? ⟨O, 1, none⟩ = some (.slice (some ⟨g, 0, none⟩) n n) := new_cell2 _ _ _ _ _ _ hO rfl
  have k2 := (Kept.refl 0 0 w1).alloc (.cells #[.int .i64 (k : Int), .slice (some ⟨g, 0, none⟩) n n] 28)
  have hgO : g < O := by have := F0.lt; omega
  have hOl : O < (w1.alloc (.cells #[.int .i64 (k : Int), .slice (some ⟨g, 0, none⟩) n n] 28)).heap.size := World.block_lt_of_cell? _ _ o0
  have kk := k1.trans k2
  have c1' := kk.cell0 c1
  have d1' := kk.cell0 d1
  have q0' := kk.cell0 q0
  have q1' := kk.cell0 q1
  have f0' := kk.loose0 (World.block_lt_of_cell? _ _ q0) f0
  have f1' := kk.loose0 (World.block_lt_of_cell? _ _ q1) f1
  have F1 := hide (F0.kept k2)
  have K2 := hide (k0.trans kk)
  have sW := unhide SW
  have hgw : w.heap.size + 3 ≤ g := by omega
  have HGW := hide hgw
  have HGO := hide (show g < O from hgO)
  have HOL := hide hOl
  clear F0 k0 k1 k2 kk c0 c1 d1 q0 q1 f0 f1 hg sW hgw hgO hOl
  go_wp2_with fail
  rw [← hO]
  generalize (w1.alloc (.cells #[.int .i64 (k : Int), .slice (some ⟨g, 0, none⟩) n n] 28)) = w2 at *
  clear hO
  go_loopw [7] (fun s7 wr => ∃ i : Nat, s7 = .int .i64 i ∧ i ≤ k ∧ Hid (Fill 0 g n PL (i * k) wr) ∧ Hid (Kept 0 0 w wr) ∧ Hid (Kept g (g + 1) w2 wr)) (fun s7 _ => k - (intOf s7).toNat)
  case atStart => exact ⟨0, rfl, Nat.zero_le _, by rw [Nat.zero_mul]; exact F1, K2, Kept.refl _ _ _⟩
  case round =>
    clear F1 K2
    obtain ⟨i, rfl, hi, hF, kw, kg⟩ := hrel
    have hwi : IntKind.i64.wrap ((i : Int) + 1) = ((i + 1 : Nat) : Int) := by rw [IntKind.wrap_i64]; omega
    obtain ⟨wo, hwo⟩ : ∃ wo, wo = wr := ⟨_, rfl⟩
    subst hwo
    by_cases hlt : i < k
    · go_wp2_with fail
      go_loopw [8] (fun s8 wx => ∃ j : Nat, s8 = .int .i64 j ∧ j ≤ k ∧ Hid (Fill 0 g n PL (i * k + j) wx) ∧ Hid (Kept 0 0 w wx) ∧ Hid (Kept g (g + 1) w2 wx)) (fun s8 _ => k - (intOf s8).toNat)
      case atStart => exact ⟨0, rfl, Nat.zero_le _, hF, kw, kg⟩
      case round =>
        clear hF kw kg
        obtain ⟨j, rfl, hj, hF, kw, kg⟩ := hrel
        have hwj : IntKind.i64.wrap ((j : Int) + 1) = ((j + 1 : Nat) : Int) := by rw [IntKind.wrap_i64]; omega
        obtain ⟨wp, hwp⟩ : ∃ wp, wp = wr := ⟨_, rfl⟩
        subst hwp
        by_cases hltj : j < k
        · have hgw := unhide HGW
          have hgo := unhide HGO
          have hp := place_lt hlt hltj
          have hwrO : O < wp.heap.size := Nat.lt_of_lt_of_le (unhide HOL) (unhide kg).size
          obtain ⟨X, hX⟩ : ∃ X, X = wp.heap.size := ⟨_, rfl⟩
          have kX := (Kept.refl 0 0 wp).alloc (.cells #[.bool false, .slice none 0 0, .int .i64 0] 58)
          have x0 : (wp.alloc (.cells #[.bool false, .slice none 0 0, .int .i64 0] 58)).cell? ⟨X, 0, none⟩ = some (.bool false) := new_cell2 _ _ _ _ _ _ hX rfl
          have x1 : (wp.alloc (.cells #[.bool false, .slice none 0 0, .int .i64 0] 58)).cell? ⟨X, 1, none⟩ = some (.slice none 0 0) := new_cell2 _ _ _ _ _ _ hX rfl
          have x2 : (wp.alloc (.cells #[.bool false, .slice none 0 0, .int .i64 0] 58)).cell? ⟨X, 2, none⟩ = some (.int .i64 0) := new_cell2 _ _ _ _ _ _ hX rfl
          have xf0 : (wp.alloc (.cells #[.bool false, .slice none 0 0, .int .i64 0] 58)).frozen? ⟨X, 0, none⟩ = false := new_loose2 _ _ _ _ _ hX
          have xf1 : (wp.alloc (.cells #[.bool false, .slice none 0 0, .int .i64 0] 58)).frozen? ⟨X, 1, none⟩ = false := new_loose2 _ _ _ _ _ hX
          have xf2 : (wp.alloc (.cells #[.bool false, .slice none 0 0, .int .i64 0] 58)).frozen? ⟨X, 2, none⟩ = false := new_loose2 _ _ _ _ _ hX
          have BX : Hid (BoxV wp.heap.size (wp.alloc (.cells #[.bool false, .slice none 0 0, .int .i64 0] 58)) X (psum (fun q => dv (-3000) (ds1.getD (i * k + q) de0) * dv (-3000) (ds2.getD (q * k + j) de0)) 0)) := by
            show BoxV _ _ _ 0
            unfold BoxV
            rw [nE_zero]
            exact ⟨none, 0, x0, x1, x2, Row.nil _ _ _ _ _⟩
          have XF : Hid ((wp.alloc (.cells #[.bool false, .slice none 0 0, .int .i64 0] 58)).frozen? ⟨X, 0, none⟩ = false ∧ (wp.alloc (.cells #[.bool false, .slice none 0 0, .int .i64 0] 58)).frozen? ⟨X, 1, none⟩ = false ∧ (wp.alloc (.cells #[.bool false, .slice none 0 0, .int .i64 0] 58)).frozen? ⟨X, 2, none⟩ = false) := ⟨xf0, xf1, xf2⟩
          have KX := hide kX
          have HX := hide hX
          have hXl : Hid (X < (wp.alloc (.cells #[.bool false, .slice none 0 0, .int .i64 0] 58)).heap.size) := World.block_lt_of_cell? _ _ x0
          clear x0 x1 x2 xf0 xf1 xf2 kX hgw hgo hp
          go_wp2_with fail
          rw [← hX]
          clear hX hwrO
          generalize (wp.alloc (.cells #[.bool false, .slice none 0 0, .int .i64 0] 58)) = wX at *
          go_loopw [10] (fun s10 wy => ∃ t : Nat, s10 = .int .i64 t ∧ t ≤ k ∧ Hid (BoxV wp.heap.size wy X (psum (fun q => dv (-3000) (ds1.getD (i * k + q) de0) * dv (-3000) (ds2.getD (q * k + j) de0)) t)) ∧ Hid (Kept X (X + 1) wX wy ∧ wy.frozen? ⟨X, 0, none⟩ = false ∧ wy.frozen? ⟨X, 1, none⟩ = false ∧ wy.frozen? ⟨X, 2, none⟩ = false)) (fun s10 _ => k - (intOf s10).toNat)
          case atStart => exact ⟨0, rfl, Nat.zero_le _, BX, ⟨Kept.refl _ _ _, (unhide XF).1, (unhide XF).2.1, (unhide XF).2.2⟩⟩
          case round =>
            clear BX XF
            obtain ⟨t, rfl, ht, hB, hK⟩ := hrel
            have hwt : IntKind.i64.wrap ((t : Int) + 1) = ((t + 1 : Nat) : Int) := by rw [IntKind.wrap_i64]; omega
            have hgw := unhide HGW
            have hgo := unhide HGO
            have hXX := unhide HX
            have hwpO : O < wp.heap.size := Nat.lt_of_lt_of_le (unhide HOL) (unhide kg).size
            by_cases hltt : t < k
            · have hp1 := place_lt hlt hltt
              have hp2 := place_lt hltt hltj
              have h16' := h16
              obtain ⟨p1, hp1'⟩ : ∃ p, p = i * k + t := ⟨_, rfl⟩
              obtain ⟨p2, hp2'⟩ : ∃ p, p = t * k + j := ⟨_, rfl⟩
              have hpn1 : p1 < n := by rw [unhide HNN]; omega
              have hpn2 : p2 < n := by rw [unhide HNN]; omega
              have hik : i * k ≤ k * k := Nat.mul_le_mul_right k (by omega)
              have htk : t * k ≤ k * k := Nat.mul_le_mul_right k (by omega)
              have hkk : k * k = n := (unhide HNN).symm
              have hw1 : IntKind.i64.wrap ((i : Int) * (k : Int)) = (((i * k : Nat)) : Int) := by rw [IntKind.wrap_i64, ← Int.natCast_mul]; omega
              have hw2 : IntKind.i64.wrap ((((i * k : Nat)) : Int) + (t : Int)) = (p1 : Int) := by rw [IntKind.wrap_i64, hp1']; omega
              have hw3 : IntKind.i64.wrap ((t : Int) * (k : Int)) = (((t * k : Nat)) : Int) := by rw [IntKind.wrap_i64, ← Int.natCast_mul]; omega
              have hw4 : IntKind.i64.wrap ((((t * k : Nat)) : Int) + (j : Int)) = (p2 : Int) := by rw [IntKind.wrap_i64, hp2']; omega
              have kwy : Kept 0 0 w wr := ((unhide kw).trans (unhide KX)).wide (unhide hK).1 (by have := (unhide kw).size; omega)
              have kd : Kept 0 0 w wr.drew := kwy.drew
              have kgy : Kept g (g + 1) w2 wp := unhide kg
              have A1 : wr.drew.cell? ⟨w.heap.size, 1, none⟩ = some (.slice a1 n e1) := (unhide hK).1.cellOut (a := ⟨w.heap.size, 1, none⟩) (by dsimp only; have := (unhide kw).size; omega) ((unhide KX).cell0 (kgy.cellOut (a := ⟨w.heap.size, 1, none⟩) (by dsimp only; omega) c1'))
              have B1 : wr.drew.cell? ⟨w.heap.size + 1, 1, none⟩ = some (.slice a2 n e2) := (unhide hK).1.cellOut (a := ⟨w.heap.size + 1, 1, none⟩) (by dsimp only; have := (unhide kw).size; omega) ((unhide KX).cell0 (kgy.cellOut (a := ⟨w.heap.size + 1, 1, none⟩) (by dsimp only; omega) d1'))
              have hok1 := unhide HU1 p1 (by omega)
              have hok2 := unhide HU2 p2 (by omega)
              obtain ⟨gA, off, ln, hA, -, -, hgA, b, kb, c0, c1, c2, hln, rr⟩ := (unhide R1).at (i := p1) (by rw [unhide HL1]; exact hpn1)
              obtain ⟨gB, offB, lnB, hBB, -, -, hgB, bB, kbB, b0, b1, b2, hlnB, rrB⟩ := (unhide R2).at (i := p2) (by rw [unhide HL2]; exact hpn2)
              cases hA
              cases hBB
              replace c0 := kd.cell0 c0
              replace c1 := kd.cell0 c1
              replace c2 := kd.cell0 c2
              replace rr := rr.kept kd (by omega)
              replace b0 := kd.cell0 b0
              replace b1 := kd.cell0 b1
              replace b2 := kd.cell0 b2
              replace rrB := rrB.kept kd (by omega)
              obtain ⟨⟨s0, z0, y0⟩, hE0⟩ : ∃ q, q = ds1.getD p1 de0 := ⟨_, rfl⟩
              obtain ⟨⟨sx, zx, yx⟩, hEx⟩ : ∃ q, q = ds2.getD p2 de0 := ⟨_, rfl⟩
              rw [← hE0] at c0 c2 hln rr hok1
              rw [← hEx] at b0 b2 hlnB rrB hok2
              dsimp only at c0 c2 hln rr b0 b2 hlnB rrB
              subst hln
              subst hlnB
              obtain ⟨au, cu, x0, x1, x2, rX⟩ := unhide hB
              obtain ⟨SM, hSM⟩ : ∃ q, q = psum (fun q => dv (-3000) (ds1.getD (i * k + q) de0) * dv (-3000) (ds2.getD (q * k + j) de0)) t := ⟨_, rfl⟩
              have hSMl : SM.natAbs < 2 ^ AA := by rw [hSM]; exact mulS_lt hk hlt hltj (by omega) (unhide HU1) (unhide HU2)
              have hSM1 : (SM + dv (-3000) (s0, z0, y0) * dv (-3000) (sx, zx, yx)) = psum (fun q => dv (-3000) (ds1.getD (i * k + q) de0) * dv (-3000) (ds2.getD (q * k + j) de0)) (t + 1) := by
                show _ = psum _ t + _
                rw [← hSM, hE0, hEx, hp1', hp2']
              have hPR : (dv (-3000) (s0, z0, y0) * dv (-3000) (sx, zx, yx)).natAbs < 2 ^ AA := by
                rw [hE0, hEx]
                obtain ⟨A, hA⟩ : ∃ A : Nat, A = 7600 := ⟨_, rfl⟩
                exact lt_up (prod_lt (by rw [← hE0]; exact hok1) (by rw [← hEx]; exact hok2) hA) (by unfold AA; omega)
              rw [← hSM] at x0 x1 x2 rX
              obtain ⟨⟨su, zu, yu⟩, hU⟩ : ∃ q, q = nE SM (-6000) := ⟨_, rfl⟩
              rw [← hU] at x0 x1 x2 rX
              dsimp only at x0 x1 x2 rX
              have hwbU : WB su zu yu := by
                have := nE_wb (L := -6000) hSMl (by decide) (by decide) (by decide)
                have e : (su, zu, yu) = (wsg SM, dlm SM, dex SM (-6000)) := hU
                simp only [Prod.mk.injEq] at e
                rw [e.1, e.2.1, e.2.2]
                exact this
              have hivU : IsV (-6000) SM (su, zu, yu) := by rw [hU]; exact nE_isV (by decide)
              have hml := mul4_spec s0 sx y0 yx wr.drew rr rrB hok1 hok2
              obtain ⟨⟨sm, zm, ym⟩, hM⟩ : ∃ q, q = nE (dv (-3000) (s0, z0, y0) * dv (-3000) (sx, zx, yx)) (-6000) := ⟨_, rfl⟩
              have hM' : (sm, zm, ym) = (wsg (wval s0 z0 * wval sx zx), dlm (wval s0 z0 * wval sx zx), dex (wval s0 z0 * wval sx zx) (y0 + yx)) := by rw [hM, ← mul_nE (a := (s0, z0, y0)) (b := (sx, zx, yx)) hok1 hok2]; rfl
              simp only [Prod.mk.injEq] at hM'
              rw [← hM'.1, ← hM'.2.1, ← hM'.2.2] at hml
              have hwbM : WB sm zm ym := by
                have := nE_wb (L := -6000) hPR (by decide) (by decide) (by decide)
                have e : (sm, zm, ym) = (wsg (dv (-3000) (s0, z0, y0) * dv (-3000) (sx, zx, yx)), dlm (dv (-3000) (s0, z0, y0) * dv (-3000) (sx, zx, yx)), dex (dv (-3000) (s0, z0, y0) * dv (-3000) (sx, zx, yx)) (-6000)) := hM
                simp only [Prod.mk.injEq] at e
                rw [e.1, e.2.1, e.2.2]
                exact this
              have hivM : IsV (-6000) (dv (-3000) (s0, z0, y0) * dv (-3000) (sx, zx, yx)) (sm, zm, ym) := by rw [hM]; exact nE_isV (by decide)
              obtain ⟨⟨sr, zr, yr⟩, hR⟩ : ∃ q, q = nE (psum (fun q => dv (-3000) (ds1.getD (i * k + q) de0) * dv (-3000) (ds2.getD (q * k + j) de0)) (t + 1)) (-6000) := ⟨_, rfl⟩
              have hR' : (sr, zr, yr) = (wsg (wval su zu * 2 ^ (yu - min yu ym).toNat + wval sm zm * 2 ^ (ym - min yu ym).toNat), dlm (wval su zu * 2 ^ (yu - min yu ym).toNat + wval sm zm * 2 ^ (ym - min yu ym).toNat), dex (wval su zu * 2 ^ (yu - min yu ym).toNat + wval sm zm * 2 ^ (ym - min yu ym).toNat) (min yu ym)) := by
                rw [hR, ← hSM1, ← sum_nE hivU hivM]
                rfl
              simp only [Prod.mk.injEq] at hR'
              have had := fun w' (r : Row .i64 true wp.heap.size w'.heap.size w' (.slice au zu.length cu) zu) vm lom (rm : Row .i64 true lom w'.heap.size w' vm zm) => add4_wide su sm yu ym w' r rm hwbU hwbM
              rw [← hR'.1, ← hR'.2.1, ← hR'.2.2] at had
              have HAD := hide had
              have HR := hide hR
              have X0 : wr.drew.cell? ⟨X, 0, none⟩ = some (.bool su) := x0
              have X1 : wr.drew.cell? ⟨X, 1, none⟩ = some (.slice au zu.length cu) := x1
              have X2 : wr.drew.cell? ⟨X, 2, none⟩ = some (.int .i64 yu) := x2
              have XF0 : wr.drew.frozen? ⟨X, 0, none⟩ = false := (unhide hK).2.1
              have XF1 : wr.drew.frozen? ⟨X, 1, none⟩ = false := (unhide hK).2.2.1
              have XF2 : wr.drew.frozen? ⟨X, 2, none⟩ = false := (unhide hK).2.2.2
              have RX := hide (show Row .i64 true wp.heap.size wr.drew.heap.size wr.drew (.slice au zu.length cu) zu from rX.kept ((Kept.refl 0 0 wr).drew) (by omega))
              have KY := hide (unhide hK).1.drew
              have hXw : X < wr.heap.size := World.block_lt_of_cell? _ _ x0
              have hXw0 : w.heap.size + 3 < X := by omega
              have hwpr : wp.heap.size < wr.heap.size := by omega
              obtain ⟨ik, hik'⟩ : ∃ im : Nat, i * k = im := ⟨_, rfl⟩
              obtain ⟨tk, htk'⟩ : ∃ im : Nat, t * k = im := ⟨_, rfl⟩
              rw [hik'] at hw1 hw2
              rw [htk'] at hw3 hw4
              clear hp1 hp2 hp1' hp2' h16' hik htk hkk kwy kd kgy hok1 hok2 rr rrB hE0 hEx hSM hSMl hSM1 hPR hU hwbU hivU hM hM' hwbM hivM hR hR' had x0 x1 x2 rX hik' htk' hB hK hXX
              go_wp2_with fail
              refine wp_region_held_drew (S := (fun w' => w'.cell? ⟨w.heap.size, 1, none⟩ = some (.slice (some ⟨gA, off, none⟩) n e1) ∧ w'.cell? ⟨gA, off + p1 * 3, none⟩ = some (.bool s0) ∧ w'.cell? ⟨gA, off + p1 * 3 + 1, none⟩ = some (.slice b z0.length kb) ∧ w'.cell? ⟨gA, off + p1 * 3 + 2, none⟩ = some (.int .i64 y0) ∧ w'.cell? ⟨w.heap.size + 1, 1, none⟩ = some (.slice (some ⟨gB, offB, none⟩) n e2) ∧ w'.cell? ⟨gB, offB + p2 * 3, none⟩ = some (.bool sx) ∧ w'.cell? ⟨gB, offB + p2 * 3 + 1, none⟩ = some (.slice bB zx.length kbB) ∧ w'.cell? ⟨gB, offB + p2 * 3 + 2, none⟩ = some (.int .i64 yx))) (by kernel_rfl) ?_ (fun hHeld => ?_)
              · exact ⟨A1, c0, c1, c2, B1, b0, b1, b2⟩
              refine wpAnyH_take (i := 1) (oi := _) (v := .pointer (some ⟨w.heap.size, 1, none⟩)) rfl (by kernel_rfl) (by kernel_rfl) (by kernel_rfl) (fun _ _ _ h => h) (Or.inl ⟨by rfl, ?_⟩) hHeld ?_
              · intro wq hSw
                try dsimp only at hSw
                go_simp
              try simp only [Act.put, List.getElem_toArray, List.getElem_cons_succ, List.getElem_cons_zero, List.setIfInBounds_toArray, List.set_cons_zero, List.set_cons_succ]
              refine wpAnyH_take (i := 2) (oi := _) (v := .slice (some ⟨gA, off, none⟩) n e1) rfl (by kernel_rfl) (by kernel_rfl) (by kernel_rfl) (fun _ _ _ h => h) (Or.inl ⟨by rfl, ?_⟩) hHeld ?_
              · intro wq hSw
                try dsimp only at hSw
                go_simp
              try simp only [Act.put, List.getElem_toArray, List.getElem_cons_succ, List.getElem_cons_zero, List.setIfInBounds_toArray, List.set_cons_zero, List.set_cons_succ]
              refine wpAnyH_take (i := 3) (oi := _) (v := .int .i64 (i : Int)) rfl (by kernel_rfl) (by kernel_rfl) (by kernel_rfl) (fun _ _ _ h => h) (Or.inl ⟨by rfl, ?_⟩) hHeld ?_
              · intro wq hSw
                try dsimp only at hSw
                go_simp
              try simp only [Act.put, List.getElem_toArray, List.getElem_cons_succ, List.getElem_cons_zero, List.setIfInBounds_toArray, List.set_cons_zero, List.set_cons_succ]
              refine wpAnyH_take (i := 4) (oi := _) (v := .int .i64 (k : Int)) rfl (by kernel_rfl) (by kernel_rfl) (by kernel_rfl) (fun _ _ _ h => h) (Or.inl ⟨by rfl, ?_⟩) hHeld ?_
              · intro wq hSw
                try dsimp only at hSw
                go_simp
              try simp only [Act.put, List.getElem_toArray, List.getElem_cons_succ, List.getElem_cons_zero, List.setIfInBounds_toArray, List.set_cons_zero, List.set_cons_succ]
              refine wpAnyH_take (i := 5) (oi := _) (v := .int .i64 (ik : Int)) rfl (by kernel_rfl) (by kernel_rfl) (by kernel_rfl) (fun _ _ _ h => h) (Or.inl ⟨by rfl, ?_⟩) hHeld ?_
              · intro wq hSw
                try dsimp only at hSw
                go_simp
              try simp only [Act.put, List.getElem_toArray, List.getElem_cons_succ, List.getElem_cons_zero, List.setIfInBounds_toArray, List.set_cons_zero, List.set_cons_succ]
              refine wpAnyH_take (i := 6) (oi := _) (v := .int .i64 (t : Int)) rfl (by kernel_rfl) (by kernel_rfl) (by kernel_rfl) (fun _ _ _ h => h) (Or.inl ⟨by rfl, ?_⟩) hHeld ?_
              · intro wq hSw
                try dsimp only at hSw
                go_simp
              try simp only [Act.put, List.getElem_toArray, List.getElem_cons_succ, List.getElem_cons_zero, List.setIfInBounds_toArray, List.set_cons_zero, List.set_cons_succ]
              refine wpAnyH_take (i := 7) (oi := _) (v := .int .i64 (p1 : Int)) rfl (by kernel_rfl) (by kernel_rfl) (by kernel_rfl) (fun _ _ _ h => h) (Or.inl ⟨by rfl, ?_⟩) hHeld ?_
              · intro wq hSw
                try dsimp only at hSw
                go_simp
              try simp only [Act.put, List.getElem_toArray, List.getElem_cons_succ, List.getElem_cons_zero, List.setIfInBounds_toArray, List.set_cons_zero, List.set_cons_succ]
              refine wpAnyH_take (i := 8) (oi := _) (v := .pointer (some ⟨gA, off + p1 * 3, none⟩)) rfl (by kernel_rfl) (by kernel_rfl) (by kernel_rfl) (fun _ _ _ h => h) (Or.inl ⟨by rfl, ?_⟩) hHeld ?_
              · intro wq hSw
                try dsimp only at hSw
                go_simp
              try simp only [Act.put, List.getElem_toArray, List.getElem_cons_succ, List.getElem_cons_zero, List.setIfInBounds_toArray, List.set_cons_zero, List.set_cons_succ]
              refine wpAnyH_take (i := 9) (oi := _) (v := .agg #[.bool s0, .slice b z0.length kb, .int .i64 y0]) rfl (by kernel_rfl) (by kernel_rfl) (by kernel_rfl) (fun _ _ _ h => h) (Or.inl ⟨by rfl, ?_⟩) hHeld ?_
              · intro wq hSw
                try dsimp only at hSw
                go_simp
              try simp only [Act.put, List.getElem_toArray, List.getElem_cons_succ, List.getElem_cons_zero, List.setIfInBounds_toArray, List.set_cons_zero, List.set_cons_succ]
              refine wpAnyH_take (i := 10) (oi := _) (v := .pointer (some ⟨w.heap.size + 1, 1, none⟩)) rfl (by kernel_rfl) (by kernel_rfl) (by kernel_rfl) (fun _ _ _ h => h) (Or.inl ⟨by rfl, ?_⟩) hHeld ?_
              · intro wq hSw
                try dsimp only at hSw
                go_simp
              try simp only [Act.put, List.getElem_toArray, List.getElem_cons_succ, List.getElem_cons_zero, List.setIfInBounds_toArray, List.set_cons_zero, List.set_cons_succ]
              refine wpAnyH_take (i := 11) (oi := _) (v := .slice (some ⟨gB, offB, none⟩) n e2) rfl (by kernel_rfl) (by kernel_rfl) (by kernel_rfl) (fun _ _ _ h => h) (Or.inl ⟨by rfl, ?_⟩) hHeld ?_
              · intro wq hSw
                try dsimp only at hSw
                go_simp
              try simp only [Act.put, List.getElem_toArray, List.getElem_cons_succ, List.getElem_cons_zero, List.setIfInBounds_toArray, List.set_cons_zero, List.set_cons_succ]
              refine wpAnyH_take (i := 12) (oi := _) (v := .int .i64 (t : Int)) rfl (by kernel_rfl) (by kernel_rfl) (by kernel_rfl) (fun _ _ _ h => h) (Or.inl ⟨by rfl, ?_⟩) hHeld ?_
              · intro wq hSw
                try dsimp only at hSw
                go_simp
              try simp only [Act.put, List.getElem_toArray, List.getElem_cons_succ, List.getElem_cons_zero, List.setIfInBounds_toArray, List.set_cons_zero, List.set_cons_succ]
              refine wpAnyH_take (i := 13) (oi := _) (v := .int .i64 (k : Int)) rfl (by kernel_rfl) (by kernel_rfl) (by kernel_rfl) (fun _ _ _ h => h) (Or.inl ⟨by rfl, ?_⟩) hHeld ?_
              · intro wq hSw
                try dsimp only at hSw
                go_simp
              try simp only [Act.put, List.getElem_toArray, List.getElem_cons_succ, List.getElem_cons_zero, List.setIfInBounds_toArray, List.set_cons_zero, List.set_cons_succ]
              refine wpAnyH_take (i := 14) (oi := _) (v := .int .i64 (tk : Int)) rfl (by kernel_rfl) (by kernel_rfl) (by kernel_rfl) (fun _ _ _ h => h) (Or.inl ⟨by rfl, ?_⟩) hHeld ?_
              · intro wq hSw
                try dsimp only at hSw
                go_simp
              try simp only [Act.put, List.getElem_toArray, List.getElem_cons_succ, List.getElem_cons_zero, List.setIfInBounds_toArray, List.set_cons_zero, List.set_cons_succ]
              refine wpAnyH_take (i := 15) (oi := _) (v := .int .i64 (j : Int)) rfl (by kernel_rfl) (by kernel_rfl) (by kernel_rfl) (fun _ _ _ h => h) (Or.inl ⟨by rfl, ?_⟩) hHeld ?_
              · intro wq hSw
                try dsimp only at hSw
                go_simp
              try simp only [Act.put, List.getElem_toArray, List.getElem_cons_succ, List.getElem_cons_zero, List.setIfInBounds_toArray, List.set_cons_zero, List.set_cons_succ]
              refine wpAnyH_take (i := 16) (oi := _) (v := .int .i64 (p2 : Int)) rfl (by kernel_rfl) (by kernel_rfl) (by kernel_rfl) (fun _ _ _ h => h) (Or.inl ⟨by rfl, ?_⟩) hHeld ?_
              · intro wq hSw
                try dsimp only at hSw
                go_simp
              try simp only [Act.put, List.getElem_toArray, List.getElem_cons_succ, List.getElem_cons_zero, List.setIfInBounds_toArray, List.set_cons_zero, List.set_cons_succ]
              refine wpAnyH_take (i := 17) (oi := _) (v := .pointer (some ⟨gB, offB + p2 * 3, none⟩)) rfl (by kernel_rfl) (by kernel_rfl) (by kernel_rfl) (fun _ _ _ h => h) (Or.inl ⟨by rfl, ?_⟩) hHeld ?_
              · intro wq hSw
                try dsimp only at hSw
                go_simp
              try simp only [Act.put, List.getElem_toArray, List.getElem_cons_succ, List.getElem_cons_zero, List.setIfInBounds_toArray, List.set_cons_zero, List.set_cons_succ]
              refine wpAnyH_take (i := 18) (oi := _) (v := .agg #[.bool sx, .slice bB zx.length kbB, .int .i64 yx]) rfl (by kernel_rfl) (by kernel_rfl) (by kernel_rfl) (fun _ _ _ h => h) (Or.inl ⟨by rfl, ?_⟩) hHeld ?_
              · intro wq hSw
                try dsimp only at hSw
                go_simp
              try simp only [Act.put, List.getElem_toArray, List.getElem_cons_succ, List.getElem_cons_zero, List.setIfInBounds_toArray, List.set_cons_zero, List.set_cons_succ]
              refine wpAnyH_ready (rs := [0, 19]) (by kernel_rfl) (by simp) ?_
              refine AllReadyH.cons rfl (fun KK hK => ?_) (AllReadyH.cons rfl (fun KK hK => ?_) AllReadyH.nil)
              · simp only [List.getElem_toArray, List.getElem_cons_succ, List.getElem_cons_zero]
                rw [if_pos (by rfl)]
                go_simp
                clear hHeld
                refine hK.out _ _ ?_ (fun hHeld => ?_)
                · exact ⟨A1, c0, c1, c2, B1, b0, b1, b2⟩
                clear hK KK
                try simp only [Act.put, List.getElem_toArray, List.getElem_cons_succ, List.getElem_cons_zero, List.setIfInBounds_toArray, List.set_cons_zero, List.set_cons_succ]
                refine wpAnyH_ready (rs := [19]) (by kernel_rfl) (by simp) ?_
                refine AllReadyH.cons rfl (fun KK hK => ?_) AllReadyH.nil
                simp only [List.getElem_toArray, List.getElem_cons_succ, List.getElem_cons_zero]
                rw [if_pos (by rfl)]
                refine wps2 29 (.tmp 39) (.tmp 48) _ rfl in_l4mulM (.agg #[.bool s0, .slice b z0.length kb, .int .i64 y0]) (.agg #[.bool sx, .slice bB zx.length kbB, .int .i64 yx]) rfl rfl hml ?_
                rintro e w3 ⟨v3, rfl, r3, k3⟩
                refine ⟨_, rfl, ?_⟩
                obtain ⟨am, cm, hv3⟩ := Row.form' r3
                subst hv3
                replace XF0 := k3.loose0 (World.block_lt_of_cell? _ _ X0) XF0
                replace XF1 := k3.loose0 (World.block_lt_of_cell? _ _ X1) XF1
                replace XF2 := k3.loose0 (World.block_lt_of_cell? _ _ X2) XF2
                replace RX := hide (((unhide RX).kept k3 (by omega)).wider (lo' := wp.heap.size) (hi' := w3.heap.size) (Nat.le_refl _) k3.size)
                replace KY := hide ((unhide KY).trans k3.any)
                have R3 := hide r3
                have z3 : wr.heap.size ≤ w3.heap.size := k3.size
                replace A1 := k3.cell0 A1
                replace c0 := k3.cell0 c0
                replace c1 := k3.cell0 c1
                replace c2 := k3.cell0 c2
                replace B1 := k3.cell0 B1
                replace b0 := k3.cell0 b0
                replace b1 := k3.cell0 b1
                replace b2 := k3.cell0 b2
                replace X0 := k3.cell0 X0
                replace X1 := k3.cell0 X1
                replace X2 := k3.cell0 X2
                clear hml r3 k3
                clear hHeld
                refine hK.out _ _ ?_ (fun hHeld => ?_)
                · exact ⟨A1, c0, c1, c2, B1, b0, b1, b2⟩
                clear hK KK
                try simp only [Act.put, List.getElem_toArray, List.getElem_cons_succ, List.getElem_cons_zero, List.setIfInBounds_toArray, List.set_cons_zero, List.set_cons_succ]
                refine wpAnyH_ready (rs := [20]) (by kernel_rfl) (by simp) ?_
                refine AllReadyH.cons rfl (fun KK hK => ?_) AllReadyH.nil
                simp only [List.getElem_toArray, List.getElem_cons_succ, List.getElem_cons_zero]
                rw [if_pos (by rfl)]
                have had := unhide HAD w3 (unhide RX) _ _ (unhide R3)
                refine wps2 28 (.tmp 30) (.tmp 49) _ rfl in_l4add (.agg #[.bool su, .slice au zu.length cu, .int .i64 yu]) (.agg #[.bool sm, .slice am zm.length cm, .int .i64 ym]) rfl rfl had ?_
                rintro e w4 ⟨v4, rfl, r4, k4⟩
                refine ⟨_, rfl, ?_⟩
                obtain ⟨ar, cr, hv4⟩ := Row.form' r4
                subst hv4
                replace XF0 := k4.loose0 (World.block_lt_of_cell? _ _ X0) XF0
                replace XF1 := k4.loose0 (World.block_lt_of_cell? _ _ X1) XF1
                replace XF2 := k4.loose0 (World.block_lt_of_cell? _ _ X2) XF2
                replace KY := hide ((unhide KY).trans k4.any)
                have R4 := hide r4
                have z4 := k4.size
                replace A1 := k4.cell0 A1
                replace c0 := k4.cell0 c0
                replace c1 := k4.cell0 c1
                replace c2 := k4.cell0 c2
                replace B1 := k4.cell0 B1
                replace b0 := k4.cell0 b0
                replace b1 := k4.cell0 b1
                replace b2 := k4.cell0 b2
                replace X0 := k4.cell0 X0
                replace X1 := k4.cell0 X1
                replace X2 := k4.cell0 X2
                clear had HAD r4 k4 R3 RX
                clear hHeld
                refine hK.out _ _ ?_ (fun hHeld => ?_)
                · exact ⟨A1, c0, c1, c2, B1, b0, b1, b2⟩
                clear hK KK
                try simp only [Act.put, List.getElem_toArray, List.getElem_cons_succ, List.getElem_cons_zero, List.setIfInBounds_toArray, List.set_cons_zero, List.set_cons_succ]
                refine wpAnyH_ready (rs := [21]) (by kernel_rfl) (by simp) ?_
                refine AllReadyH.cons rfl (fun KK hK => ?_) AllReadyH.nil
                simp only [List.getElem_toArray, List.getElem_cons_succ, List.getElem_cons_zero]
                rw [if_pos (by rfl)]
                go_simp
                clear hHeld
                refine hK.out _ _ ?_ (fun hHeld => ?_)
                · exact ⟨(cell_aside _ (by dsimp only; omega) (cell_aside _ (by dsimp only; omega) (cell_aside _ (by dsimp only; omega) A1))), (cell_aside _ (by dsimp only; omega) (cell_aside _ (by dsimp only; omega) (cell_aside _ (by dsimp only; omega) c0))), (cell_aside _ (by dsimp only; omega) (cell_aside _ (by dsimp only; omega) (cell_aside _ (by dsimp only; omega) c1))), (cell_aside _ (by dsimp only; omega) (cell_aside _ (by dsimp only; omega) (cell_aside _ (by dsimp only; omega) c2))), (cell_aside _ (by dsimp only; omega) (cell_aside _ (by dsimp only; omega) (cell_aside _ (by dsimp only; omega) B1))), (cell_aside _ (by dsimp only; omega) (cell_aside _ (by dsimp only; omega) (cell_aside _ (by dsimp only; omega) b0))), (cell_aside _ (by dsimp only; omega) (cell_aside _ (by dsimp only; omega) (cell_aside _ (by dsimp only; omega) b1))), (cell_aside _ (by dsimp only; omega) (cell_aside _ (by dsimp only; omega) (cell_aside _ (by dsimp only; omega) b2)))⟩
                clear hK KK
                try simp only [Act.put, List.getElem_toArray, List.getElem_cons_succ, List.getElem_cons_zero, List.setIfInBounds_toArray, List.set_cons_zero, List.set_cons_succ]
                refine wpAnyH_done (by kernel_rfl) ?_ _
                clear hHeld
                have ks : Kept X (X + 1) w4 (((w4.setCell ⟨X, 0, none⟩ (.bool sr)).setCell ⟨X, 1, none⟩ (.slice ar zr.length cr)).setCell ⟨X, 2, none⟩ (.int .i64 yr)) := (((Kept.refl _ _ _).setCell (p := ⟨X, 0, none⟩) (Nat.le_refl _) (Nat.lt_succ_self _) _).setCell (p := ⟨X, 1, none⟩) (Nat.le_refl _) (Nat.lt_succ_self _) _).setCell (p := ⟨X, 2, none⟩) (Nat.le_refl _) (Nat.lt_succ_self _) _
                have Y0 := cell_off _ _ _ 2 (.int .i64 yr) _ (cell_off _ _ _ 1 (.slice ar zr.length cr) _ (cell_on _ _ _ (.bool sr) _ X0) (show (0 : Nat) ≠ 1 by omega)) (show (0 : Nat) ≠ 2 by omega)
                have Y1 := cell_off _ _ _ 2 (.int .i64 yr) _ (cell_on _ _ _ (.slice ar zr.length cr) _ (cell_off _ _ _ 0 (.bool sr) _ X1 (show (1 : Nat) ≠ 0 by omega))) (show (1 : Nat) ≠ 2 by omega)
                have Y2 := cell_on _ _ _ (.int .i64 yr) _ (cell_off _ _ _ 1 (.slice ar zr.length cr) _ (cell_off _ _ _ 0 (.bool sr) _ X2 (show (2 : Nat) ≠ 0 by omega)) (show (2 : Nat) ≠ 1 by omega))
                have hsz : (((w4.setCell ⟨X, 0, none⟩ (.bool sr)).setCell ⟨X, 1, none⟩ (.slice ar zr.length cr)).setCell ⟨X, 2, none⟩ (.int .i64 yr)).heap.size = w4.heap.size := by rw [size_set, size_set, size_set]
                have BXX : Hid (BoxV wp.heap.size (((w4.setCell ⟨X, 0, none⟩ (.bool sr)).setCell ⟨X, 1, none⟩ (.slice ar zr.length cr)).setCell ⟨X, 2, none⟩ (.int .i64 yr)) X (psum (fun q => dv (-3000) (ds1.getD (i * k + q) de0) * dv (-3000) (ds2.getD (q * k + j) de0)) (t + 1))) := by
                  unfold Hid BoxV
                  rw [← unhide HR]
                  exact ⟨ar, cr, Y0, Y1, Y2, (((unhide R4).kept ks (by omega)).wider (lo' := wp.heap.size) (hi' := (((w4.setCell ⟨X, 0, none⟩ (.bool sr)).setCell ⟨X, 1, none⟩ (.slice ar zr.length cr)).setCell ⟨X, 2, none⟩ (.int .i64 yr)).heap.size) (by omega) (by omega))⟩
                have KXX : Hid (Kept X (X + 1) wX (((w4.setCell ⟨X, 0, none⟩ (.bool sr)).setCell ⟨X, 1, none⟩ (.slice ar zr.length cr)).setCell ⟨X, 2, none⟩ (.int .i64 yr)) ∧ (((w4.setCell ⟨X, 0, none⟩ (.bool sr)).setCell ⟨X, 1, none⟩ (.slice ar zr.length cr)).setCell ⟨X, 2, none⟩ (.int .i64 yr)).frozen? ⟨X, 0, none⟩ = false ∧ (((w4.setCell ⟨X, 0, none⟩ (.bool sr)).setCell ⟨X, 1, none⟩ (.slice ar zr.length cr)).setCell ⟨X, 2, none⟩ (.int .i64 yr)).frozen? ⟨X, 1, none⟩ = false ∧ (((w4.setCell ⟨X, 0, none⟩ (.bool sr)).setCell ⟨X, 1, none⟩ (.slice ar zr.length cr)).setCell ⟨X, 2, none⟩ (.int .i64 yr)).frozen? ⟨X, 2, none⟩ = false) := ⟨(unhide KY).trans ks, by rw [frozen_set, frozen_set, frozen_set]; exact XF0, by rw [frozen_set, frozen_set, frozen_set]; exact XF1, by rw [frozen_set, frozen_set, frozen_set]; exact XF2⟩
                clear ks Y0 Y1 Y2 hsz KY R4 X0 X1 X2 XF0 XF1 XF2 A1 c0 c1 c2 B1 b0 b1 b2 hw1 hw2 hw3 hw4
                go_wp2
                go_roundw
                case rel => exact ⟨t + 1, by simp, hltt, BXX, KXX⟩
                case measure => simp [intOf]; omega
              · simp only [List.getElem_toArray, List.getElem_cons_succ, List.getElem_cons_zero]
                rw [if_pos (by rfl)]
                refine wps2 29 (.tmp 39) (.tmp 48) _ rfl in_l4mulM (.agg #[.bool s0, .slice b z0.length kb, .int .i64 y0]) (.agg #[.bool sx, .slice bB zx.length kbB, .int .i64 yx]) rfl rfl hml ?_
                rintro e w3 ⟨v3, rfl, r3, k3⟩
                refine ⟨_, rfl, ?_⟩
                obtain ⟨am, cm, hv3⟩ := Row.form' r3
                subst hv3
                replace XF0 := k3.loose0 (World.block_lt_of_cell? _ _ X0) XF0
                replace XF1 := k3.loose0 (World.block_lt_of_cell? _ _ X1) XF1
                replace XF2 := k3.loose0 (World.block_lt_of_cell? _ _ X2) XF2
                replace RX := hide (((unhide RX).kept k3 (by omega)).wider (lo' := wp.heap.size) (hi' := w3.heap.size) (Nat.le_refl _) k3.size)
                replace KY := hide ((unhide KY).trans k3.any)
                have R3 := hide r3
                have z3 : wr.heap.size ≤ w3.heap.size := k3.size
                replace A1 := k3.cell0 A1
                replace c0 := k3.cell0 c0
                replace c1 := k3.cell0 c1
                replace c2 := k3.cell0 c2
                replace B1 := k3.cell0 B1
                replace b0 := k3.cell0 b0
                replace b1 := k3.cell0 b1
                replace b2 := k3.cell0 b2
                replace X0 := k3.cell0 X0
                replace X1 := k3.cell0 X1
                replace X2 := k3.cell0 X2
                clear hml r3 k3
                clear hHeld
                refine hK.out _ _ ?_ (fun hHeld => ?_)
                · exact ⟨A1, c0, c1, c2, B1, b0, b1, b2⟩
                clear hK KK
                try simp only [Act.put, List.getElem_toArray, List.getElem_cons_succ, List.getElem_cons_zero, List.setIfInBounds_toArray, List.set_cons_zero, List.set_cons_succ]
                refine wpAnyH_ready (rs := [0]) (by kernel_rfl) (by simp) ?_
                refine AllReadyH.cons rfl (fun KK hK => ?_) AllReadyH.nil
                simp only [List.getElem_toArray, List.getElem_cons_succ, List.getElem_cons_zero]
                rw [if_pos (by rfl)]
                go_simp
                clear hHeld
                refine hK.out _ _ ?_ (fun hHeld => ?_)
                · exact ⟨A1, c0, c1, c2, B1, b0, b1, b2⟩
                clear hK KK
                try simp only [Act.put, List.getElem_toArray, List.getElem_cons_succ, List.getElem_cons_zero, List.setIfInBounds_toArray, List.set_cons_zero, List.set_cons_succ]
                refine wpAnyH_ready (rs := [20]) (by kernel_rfl) (by simp) ?_
                refine AllReadyH.cons rfl (fun KK hK => ?_) AllReadyH.nil
                simp only [List.getElem_toArray, List.getElem_cons_succ, List.getElem_cons_zero]
                rw [if_pos (by rfl)]
                have had := unhide HAD w3 (unhide RX) _ _ (unhide R3)
                refine wps2 28 (.tmp 30) (.tmp 49) _ rfl in_l4add (.agg #[.bool su, .slice au zu.length cu, .int .i64 yu]) (.agg #[.bool sm, .slice am zm.length cm, .int .i64 ym]) rfl rfl had ?_
                rintro e w4 ⟨v4, rfl, r4, k4⟩
                refine ⟨_, rfl, ?_⟩
                obtain ⟨ar, cr, hv4⟩ := Row.form' r4
                subst hv4
                replace XF0 := k4.loose0 (World.block_lt_of_cell? _ _ X0) XF0
                replace XF1 := k4.loose0 (World.block_lt_of_cell? _ _ X1) XF1
                replace XF2 := k4.loose0 (World.block_lt_of_cell? _ _ X2) XF2
                replace KY := hide ((unhide KY).trans k4.any)
                have R4 := hide r4
                have z4 := k4.size
                replace A1 := k4.cell0 A1
                replace c0 := k4.cell0 c0
                replace c1 := k4.cell0 c1
                replace c2 := k4.cell0 c2
                replace B1 := k4.cell0 B1
                replace b0 := k4.cell0 b0
                replace b1 := k4.cell0 b1
                replace b2 := k4.cell0 b2
                replace X0 := k4.cell0 X0
                replace X1 := k4.cell0 X1
                replace X2 := k4.cell0 X2
                clear had HAD r4 k4 R3 RX
                clear hHeld
                refine hK.out _ _ ?_ (fun hHeld => ?_)
                · exact ⟨A1, c0, c1, c2, B1, b0, b1, b2⟩
                clear hK KK
                try simp only [Act.put, List.getElem_toArray, List.getElem_cons_succ, List.getElem_cons_zero, List.setIfInBounds_toArray, List.set_cons_zero, List.set_cons_succ]
                refine wpAnyH_ready (rs := [21]) (by kernel_rfl) (by simp) ?_
                refine AllReadyH.cons rfl (fun KK hK => ?_) AllReadyH.nil
                simp only [List.getElem_toArray, List.getElem_cons_succ, List.getElem_cons_zero]
                rw [if_pos (by rfl)]
                go_simp
                clear hHeld
                refine hK.out _ _ ?_ (fun hHeld => ?_)
                · exact ⟨(cell_aside _ (by dsimp only; omega) (cell_aside _ (by dsimp only; omega) (cell_aside _ (by dsimp only; omega) A1))), (cell_aside _ (by dsimp only; omega) (cell_aside _ (by dsimp only; omega) (cell_aside _ (by dsimp only; omega) c0))), (cell_aside _ (by dsimp only; omega) (cell_aside _ (by dsimp only; omega) (cell_aside _ (by dsimp only; omega) c1))), (cell_aside _ (by dsimp only; omega) (cell_aside _ (by dsimp only; omega) (cell_aside _ (by dsimp only; omega) c2))), (cell_aside _ (by dsimp only; omega) (cell_aside _ (by dsimp only; omega) (cell_aside _ (by dsimp only; omega) B1))), (cell_aside _ (by dsimp only; omega) (cell_aside _ (by dsimp only; omega) (cell_aside _ (by dsimp only; omega) b0))), (cell_aside _ (by dsimp only; omega) (cell_aside _ (by dsimp only; omega) (cell_aside _ (by dsimp only; omega) b1))), (cell_aside _ (by dsimp only; omega) (cell_aside _ (by dsimp only; omega) (cell_aside _ (by dsimp only; omega) b2)))⟩
                clear hK KK
                try simp only [Act.put, List.getElem_toArray, List.getElem_cons_succ, List.getElem_cons_zero, List.setIfInBounds_toArray, List.set_cons_zero, List.set_cons_succ]
                refine wpAnyH_done (by kernel_rfl) ?_ _
                clear hHeld
                have ks : Kept X (X + 1) w4 (((w4.setCell ⟨X, 0, none⟩ (.bool sr)).setCell ⟨X, 1, none⟩ (.slice ar zr.length cr)).setCell ⟨X, 2, none⟩ (.int .i64 yr)) := (((Kept.refl _ _ _).setCell (p := ⟨X, 0, none⟩) (Nat.le_refl _) (Nat.lt_succ_self _) _).setCell (p := ⟨X, 1, none⟩) (Nat.le_refl _) (Nat.lt_succ_self _) _).setCell (p := ⟨X, 2, none⟩) (Nat.le_refl _) (Nat.lt_succ_self _) _
                have Y0 := cell_off _ _ _ 2 (.int .i64 yr) _ (cell_off _ _ _ 1 (.slice ar zr.length cr) _ (cell_on _ _ _ (.bool sr) _ X0) (show (0 : Nat) ≠ 1 by omega)) (show (0 : Nat) ≠ 2 by omega)
                have Y1 := cell_off _ _ _ 2 (.int .i64 yr) _ (cell_on _ _ _ (.slice ar zr.length cr) _ (cell_off _ _ _ 0 (.bool sr) _ X1 (show (1 : Nat) ≠ 0 by omega))) (show (1 : Nat) ≠ 2 by omega)
                have Y2 := cell_on _ _ _ (.int .i64 yr) _ (cell_off _ _ _ 1 (.slice ar zr.length cr) _ (cell_off _ _ _ 0 (.bool sr) _ X2 (show (2 : Nat) ≠ 0 by omega)) (show (2 : Nat) ≠ 1 by omega))
                have hsz : (((w4.setCell ⟨X, 0, none⟩ (.bool sr)).setCell ⟨X, 1, none⟩ (.slice ar zr.length cr)).setCell ⟨X, 2, none⟩ (.int .i64 yr)).heap.size = w4.heap.size := by rw [size_set, size_set, size_set]
                have BXX : Hid (BoxV wp.heap.size (((w4.setCell ⟨X, 0, none⟩ (.bool sr)).setCell ⟨X, 1, none⟩ (.slice ar zr.length cr)).setCell ⟨X, 2, none⟩ (.int .i64 yr)) X (psum (fun q => dv (-3000) (ds1.getD (i * k + q) de0) * dv (-3000) (ds2.getD (q * k + j) de0)) (t + 1))) := by
                  unfold Hid BoxV
                  rw [← unhide HR]
                  exact ⟨ar, cr, Y0, Y1, Y2, (((unhide R4).kept ks (by omega)).wider (lo' := wp.heap.size) (hi' := (((w4.setCell ⟨X, 0, none⟩ (.bool sr)).setCell ⟨X, 1, none⟩ (.slice ar zr.length cr)).setCell ⟨X, 2, none⟩ (.int .i64 yr)).heap.size) (by omega) (by omega))⟩
                have KXX : Hid (Kept X (X + 1) wX (((w4.setCell ⟨X, 0, none⟩ (.bool sr)).setCell ⟨X, 1, none⟩ (.slice ar zr.length cr)).setCell ⟨X, 2, none⟩ (.int .i64 yr)) ∧ (((w4.setCell ⟨X, 0, none⟩ (.bool sr)).setCell ⟨X, 1, none⟩ (.slice ar zr.length cr)).setCell ⟨X, 2, none⟩ (.int .i64 yr)).frozen? ⟨X, 0, none⟩ = false ∧ (((w4.setCell ⟨X, 0, none⟩ (.bool sr)).setCell ⟨X, 1, none⟩ (.slice ar zr.length cr)).setCell ⟨X, 2, none⟩ (.int .i64 yr)).frozen? ⟨X, 1, none⟩ = false ∧ (((w4.setCell ⟨X, 0, none⟩ (.bool sr)).setCell ⟨X, 1, none⟩ (.slice ar zr.length cr)).setCell ⟨X, 2, none⟩ (.int .i64 yr)).frozen? ⟨X, 2, none⟩ = false) := ⟨(unhide KY).trans ks, by rw [frozen_set, frozen_set, frozen_set]; exact XF0, by rw [frozen_set, frozen_set, frozen_set]; exact XF1, by rw [frozen_set, frozen_set, frozen_set]; exact XF2⟩
                clear ks Y0 Y1 Y2 hsz KY R4 X0 X1 X2 XF0 XF1 XF2 A1 c0 c1 c2 B1 b0 b1 b2 hw1 hw2 hw3 hw4
                go_wp2
                go_roundw
                case rel => exact ⟨t + 1, by simp, hltt, BXX, KXX⟩
                case measure => simp [intOf]; omega
            · have htk : t = k := by omega
              subst htk
              obtain ⟨p, hpp⟩ : ∃ p, p = i * t + j := ⟨_, rfl⟩
              have hpn : p < n := by rw [unhide HNN, hpp]; exact place_lt hlt hltj
              have hik : i * t ≤ t * t := Nat.mul_le_mul_right t (by omega)
              have hkk : t * t = n := (unhide HNN).symm
              have hw1 : IntKind.i64.wrap ((i : Int) * (t : Int)) = (((i * t : Nat)) : Int) := by rw [IntKind.wrap_i64, ← Int.natCast_mul]; omega
              have hw2 : IntKind.i64.wrap ((((i * t : Nat)) : Int) + (j : Int)) = (p : Int) := by rw [IntKind.wrap_i64, hpp]; omega
              obtain ⟨au, cu, x0, x1, x2, rX⟩ := unhide hB
              obtain ⟨⟨sr, zr, yr⟩, hR⟩ : ∃ q, q = nE (psum (fun q => dv (-3000) (ds1.getD (i * t + q) de0) * dv (-3000) (ds2.getD (q * t + j) de0)) t) (-6000) := ⟨_, rfl⟩
              rw [← hR] at x0 x1 x2 rX
              dsimp only at x0 x1 x2 rX
              have HE : Hid (PL.getD p de0 = (sr, zr, yr)) := by
                show _ = _
                rw [unhide HPL, map_at _ _ _ hpn, hR, hpp]
                unfold mulV mulW
                rw [Nat.mul_comm i t, Nat.mul_add_mod, Nat.mod_eq_of_lt hltj, Nat.mul_add_div (by omega), Nat.div_eq_of_lt hltj, Nat.add_zero, Nat.mul_comm t i]
              have kyw : Kept 0 0 wp wr := (unhide KX).wide (unhide hK).1 (by omega)
              have O1 : wr.cell? ⟨O, 1, none⟩ = some (.slice (some ⟨g, 0, none⟩) n n) := kyw.cell0 ((unhide kg).cellOut (a := ⟨O, 1, none⟩) (by dsimp only; omega) o1)
              rw [← hpp] at hF
              have F5 := (unhide hF).step hpn kyw rX (unhide HE)
              have hFl := (unhide hF).lt
              obtain ⟨m0, hm0⟩ := (unhide hF).cell (p * 3) (by omega)
              obtain ⟨m1, hm1⟩ := (unhide hF).cell (p * 3 + 1) (by omega)
              obtain ⟨m2, hm2⟩ := (unhide hF).cell (p * 3 + 2) (by omega)
              have fg0 := kyw.loose0 (a := ⟨g, p * 3, none⟩) hFl ((unhide hF).loose (p * 3) (by omega))
              have fg1 := kyw.loose0 (a := ⟨g, p * 3 + 1, none⟩) hFl ((unhide hF).loose (p * 3 + 1) (by omega))
              have fg2 := kyw.loose0 (a := ⟨g, p * 3 + 2, none⟩) hFl ((unhide hF).loose (p * 3 + 2) (by omega))
              replace hm0 := kyw.cell0 hm0
              replace hm1 := kyw.cell0 hm1
              replace hm2 := kyw.cell0 hm2
              have ks : Kept g (g + 1) wr (((wr.setCell ⟨g, p * 3, none⟩ (.bool sr)).setCell ⟨g, p * 3 + 1, none⟩ (.slice au zr.length cu)).setCell ⟨g, p * 3 + 2, none⟩ (.int .i64 yr)) := (((Kept.refl _ _ _).setCell (p := ⟨g, p * 3, none⟩) (Nat.le_refl _) (Nat.lt_succ_self _) _).setCell (p := ⟨g, p * 3 + 1, none⟩) (Nat.le_refl _) (Nat.lt_succ_self _) _).setCell (p := ⟨g, p * 3 + 2, none⟩) (Nat.le_refl _) (Nat.lt_succ_self _) _
              have F6 : Hid (Fill 0 g n PL (i * t + (j + 1)) (((wr.setCell ⟨g, p * 3, none⟩ (.bool sr)).setCell ⟨g, p * 3 + 1, none⟩ (.slice au zr.length cu)).setCell ⟨g, p * 3 + 2, none⟩ (.int .i64 yr))) := by
                rw [← Nat.add_assoc, ← hpp]
                exact F5
              have K6 := hide (((unhide kw).trans kyw).wide ks (by omega))
              have KG6 := hide (((unhide kg).trans kyw.any).trans ks)
              obtain ⟨ik, hik'⟩ : ∃ im : Nat, i * t = im := ⟨_, rfl⟩
              rw [hik'] at hw1 hw2
              clear ks F5 kyw hpp hR rX hFl hik hkk hik' hF kw kg hB hK hgw hgo hXX
              go_wp2
              go_roundw
              case rel => exact ⟨j + 1, by simp, hltj, F6, K6, KG6⟩
              case measure => simp [intOf]; omega
        · have hjk : j = k := by omega
          subst hjk
          have F6 : Hid (Fill 0 g n PL ((i + 1) * j) wp) := by rw [Nat.succ_mul]; exact hF
          clear hF
          go_wp2
          go_roundw
          case rel => exact ⟨i + 1, by simp, hlt, F6, kw, kg⟩
          case measure => simp [intOf]; omega
    · have hik : i = k := by omega
      subst hik
      have hgw := unhide HGW
      have hgo := unhide HGO
      have D := (unhide (show Hid (Fill 0 g n PL n wo) by rw [unhide HNN] at hF ⊢; exact hF)).done (unhide HPN) (by unfold maxLen; omega)
      have Q0 := (unhide kg).cellOut (a := ⟨w.heap.size + 1 + 1, 0, none⟩) (by dsimp only; omega) q0'
      have Q1 := (unhide kg).cellOut (a := ⟨w.heap.size + 1 + 1, 1, none⟩) (by dsimp only; omega) q1'
      have Qf0 := (unhide kg).looseOut (a := ⟨w.heap.size + 1 + 1, 0, none⟩) (by dsimp only; omega) (World.block_lt_of_cell? _ _ q0') f0'
      have Qf1 := (unhide kg).looseOut (a := ⟨w.heap.size + 1 + 1, 1, none⟩) (by dsimp only; omega) (World.block_lt_of_cell? _ _ q1') f1'
      have O0 := (unhide kg).cellOut (a := ⟨O, 0, none⟩) (by dsimp only; omega) o0
      have O1 := (unhide kg).cellOut (a := ⟨O, 1, none⟩) (by dsimp only; omega) o1
      have ks : Kept (w.heap.size + 1 + 1) (w.heap.size + 1 + 1 + 1) wo ((wo.setCell ⟨w.heap.size + 1 + 1, 0, none⟩ (.int .i64 (i : Int))).setCell ⟨w.heap.size + 1 + 1, 1, none⟩ (.slice (some ⟨g, 0, none⟩) n n)) := ((Kept.refl _ _ _).setCell (p := ⟨w.heap.size + 1 + 1, 0, none⟩) (Nat.le_refl _) (Nat.lt_succ_self _) _).setCell (p := ⟨w.heap.size + 1 + 1, 1, none⟩) (Nat.le_refl _) (Nat.lt_succ_self _) _
      have hsz : ((wo.setCell ⟨w.heap.size + 1 + 1, 0, none⟩ (.int .i64 (i : Int))).setCell ⟨w.heap.size + 1 + 1, 1, none⟩ (.slice (some ⟨g, 0, none⟩) n n)).heap.size = wo.heap.size := by rw [size_set, size_set]
      have DD := hide ((D.kept ks (by omega)).wider (lo' := w.heap.size) (hi' := ((wo.setCell ⟨w.heap.size + 1 + 1, 0, none⟩ (.int .i64 (i : Int))).setCell ⟨w.heap.size + 1 + 1, 1, none⟩ (.slice (some ⟨g, 0, none⟩) n n)).heap.size) (by omega) (by omega))
      have K7 := hide ((unhide kw).wide ks (by omega))
      have G0 := cell_off _ _ _ 1 (.slice (some ⟨g, 0, none⟩) n n) _ (cell_on _ _ _ (.int .i64 (i : Int)) _ Q0) (show (0 : Nat) ≠ 1 by omega)
      have G1 := cell_on _ _ _ (.slice (some ⟨g, 0, none⟩) n n) _ (cell_off _ _ _ 0 (.int .i64 (i : Int)) _ Q1 (show (1 : Nat) ≠ 0 by omega))
      clear hF kw kg D ks hsz hgw hgo
      go_wp2
      exact bodyPost_ret (v := .agg #[.int .i64 (i : Int), .slice (some ⟨g, 0, none⟩) n n]) (by simp [results, Tryz.results14, go_sem, G0, G1]) rfl ⟨.slice (some ⟨g, 0, none⟩) n n, rfl, unhide DD, unhide K7⟩

end Go.Proofs.YtefnblaphkookaaGreatDoor

namespace Go.Proofs.YtefnblaphkookaaGreatDoor
open Go.RowKit
set_option linter.unusedVariables false
set_option maxRecDepth 8000
set_option linter.unusedSimpArgs false

theorem mulV_lt {k p : Nat} {ds1 ds2 : List DE} (h4 : k ≤ 4) (hp : p < k * k) (U1 : ∀ p, p < k * k → dOkE (ds1.getD p de0) = true) (U2 : ∀ p, p < k * k → dOkE (ds2.getD p de0) = true) : (mulV k ds1 ds2 p).natAbs < 2 ^ AA := by
  obtain ⟨h1, h2, -⟩ := turP_parts hp
  exact mulS_lt h4 h2 h1 (Nat.le_refl _) U1 U2

end Go.Proofs.YtefnblaphkookaaGreatDoor
