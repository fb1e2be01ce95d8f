/-
  Sums of matrices in the model: l8add, with and without the opposite.
-/
import Derived.Test.YtagaofpkfpfilaaGreatDoorTw
import Derived.Test.YtagaofpkfpfilaaGreatDoorBC
import Derived.Test.YtagaofpkfpfilaaGreatDoorDy8
import Derived.Deep.DeepCutAuto
import Derived.Deep.RegionHeld3
namespace Go.Proofs.YtagaofpkfpfilaaGreatDoor
open Go.RowKit
set_option linter.unusedVariables false
set_option maxRecDepth 8000
set_option linter.unusedSimpArgs false

/-- A sum's number, or a difference's. -/
def sgV (ng : Bool) (ds1 ds2 : List DE) (p : Nat) : Int := dv (-3000) (ds1.getD p de0) + (if ng = true then -dv (-3000) (ds2.getD p de0) else dv (-3000) (ds2.getD p de0))
theorem neg_dv {s : Bool} {z : List Int} {y : Int} (h : dokB s z y = true) : dv (-3000) (wsg (-wval s z), wlm (-wval s z), y) = -dv (-3000) (s, z, y) := by
  unfold dv
  dsimp only
  rw [(dok_neg h).2, Int.neg_mul]
theorem add_nE {a b : DE} (h1 : dOkE a = true) (h2 : dOkE b = true) : nE (sumM a b) (min a.2.2 b.2.2) = nE (dv (-3000) a + dv (-3000) b) (-3000) :=
  sum_nE (dok_nv h1 (Int.le_refl _)).1 (dok_nv h2 (Int.le_refl _)).1

set_option maxHeartbeats 16000000 in
theorem add8f_spec {k lo1 hi1 lo2 hi2 : Nat} {v1 v2 : Value} {ds1 ds2 : List DE} (n2 : Int) (w : World) (hk : k ≤ 4) (hl1 : ds1.length = k * k) (hl2 : ds2.length = k * k) (U1 : ∀ i, i < ds1.length → dokB (ds1.getD i de0).1 (ds1.getD i de0).2.1 (ds1.getD i de0).2.2 = true) (U2 : ∀ i, i < ds2.length → dokB (ds2.getD i de0).1 (ds2.getD i de0).2.1 (ds2.getD i de0).2.2 = true) (r1 : Dys lo1 hi1 w v1 ds1) (r2 : Dys lo2 hi2 w v2 ds2) :
    Calls Tryz.prog 39 #[.agg #[.int .i64 (k : Int), v1], .agg #[.int .i64 n2, v2], .bool false] w fun e w' => ∃ v', e = .returned (.agg #[.int .i64 (k : Int), v']) ∧ DysO w.heap.size w'.heap.size w' v' ((List.range (k * k)).map fun p => nE (sgV false ds1 ds2 p) (-3000)) ∧ Kept 0 0 w w' := by
  obtain ⟨W, hW⟩ : ∃ W, W = ((w.alloc (.cells #[.int .i64 (k : Int), v1] 37)).alloc (.cells #[.int .i64 n2, v2] 37)).alloc (.cells #[.int .i64 0, .slice none 0 0] 37) := ⟨_, rfl⟩
  have k0 : Kept 0 0 w W := by rw [hW]; exact (((Kept.refl 0 0 w).alloc _).alloc _).alloc _
  have c0 : W.cell? ⟨w.heap.size, 0, none⟩ = some (.int .i64 (k : Int)) := by rw [hW]; exact old_cell _ (old_cell _ (new_cell2 _ _ _ _ _ _ (by simp) rfl))
  have c1 : W.cell? ⟨w.heap.size, 1, none⟩ = some v1 := by rw [hW]; exact old_cell _ (old_cell _ (new_cell2 _ _ _ _ _ _ (by simp) rfl))
  have d1 : W.cell? ⟨w.heap.size + 1, 1, none⟩ = some v2 := by rw [hW]; exact old_cell _ (new_cell2 _ _ _ _ _ _ (by simp) rfl)
  have q0 : W.cell? ⟨w.heap.size + 1 + 1, 0, none⟩ = some (.int .i64 0) := by rw [hW]; exact new_cell2 _ _ _ _ _ _ (by simp) rfl
  have q1 : W.cell? ⟨w.heap.size + 1 + 1, 1, none⟩ = some (.slice none 0 0) := by rw [hW]; exact new_cell2 _ _ _ _ _ _ (by simp) rfl
  have f0 : W.frozen? ⟨w.heap.size + 1 + 1, 0, none⟩ = false := by rw [hW]; exact new_loose2 _ _ _ _ _ (by simp)
  have f1 : W.frozen? ⟨w.heap.size + 1 + 1, 1, none⟩ = false := by rw [hW]; exact new_loose2 _ _ _ _ _ (by simp)
  have sW : W.heap.size = w.heap.size + 3 := by rw [hW]; simp
  have h16 : k * k ≤ 4 * 4 := Nat.mul_le_mul hk hk
  obtain ⟨n, hnn⟩ : ∃ n, n = k * k := ⟨_, rfl⟩
  obtain ⟨PL, hPL⟩ : ∃ PL, PL = (List.range n).map fun p => nE (sgV false ds1 ds2 p) (-3000) := ⟨_, rfl⟩
  have hn8 := new8_spec hk W PL
  rw [← hnn] at hn8 h16 hl1 hl2 ⊢
  rw [← hPL]
  obtain ⟨a1, e1, rfl, -, -⟩ := r1.form
  obtain ⟨a2, e2, rfl, -, -⟩ := r2.form
  rw [hl1] at r1 c1 hW
  rw [hl2] at r2 d1 hW
  rw [hl1, hl2]
  have R1 := hide r1
  have R2 := hide r2
  have HPL := hide hPL
  have HL1 := hide hl1
  have HL2 := hide hl2
  have HU1 := hide U1
  have HU2 := hide U2
  have SW := hide sW
  have HPN := hide (show n = PL.length by rw [hPL]; simp)
  rw [hW] at hn8
  clear r1 r2 hPL U1 U2 sW hl1 hl2 hnn
  go_enter Tryz.func39, Tryz.ntmps39
  go_wp2_with fail
  refine hn8.mono ?_
  rw [← hW]
  rintro e w1 ⟨g, rfl, F0, hg, k1⟩
  clear hn8 hW
  obtain ⟨O, hO⟩ : ∃ O, O = w1.heap.size := ⟨_, rfl⟩
  have o0 : (w1.alloc (.cells #[.int .i64 (k : Int), .slice (some ⟨g, 0, none⟩) n n] 37)).cell? ⟨O, 0, none⟩ = some (.int .i64 (k : Int)) := new_cell2 _ _ _ _ _ _ hO rfl
  have o1 : (w1.alloc (.cells #[.int .i64 (k : Int), .slice (some ⟨g, 0, none⟩) n n] 37)).cell? ⟨O, 1, none⟩ = some (.slice (some ⟨g, 0, none⟩) n n) := new_cell2 _ _ _ _ _ _ hO rfl
  have k2 := (Kept.refl 0 0 w1).alloc (.cells #[.int .i64 (k : Int), .slice (some ⟨g, 0, none⟩) n n] 37)
  have hgO : g < O := by have := F0.lt; omega
  have hOl : O < (w1.alloc (.cells #[.int .i64 (k : Int), .slice (some ⟨g, 0, none⟩) n n] 37)).heap.size := World.block_lt_of_cell? _ _ o0
  have kk := k1.trans k2
  have c1' := kk.cell0 c1
  have d1' := kk.cell0 d1
  have q0' := kk.cell0 q0
  have q1' := kk.cell0 q1
  have f0' := kk.loose0 (World.block_lt_of_cell? _ _ q0) f0
  have f1' := kk.loose0 (World.block_lt_of_cell? _ _ q1) f1
  have F1 := hide (F0.kept k2)
  have K2 := hide (k0.trans kk)
  have sW := unhide SW
  have hgw : w.heap.size + 3 ≤ g := by omega
  have HGW := hide hgw
  have HGO := hide (show g < O from hgO)
  clear F0 k0 k1 k2 kk c0 c1 d1 q0 q1 f0 f1 hg sW hgw hgO
  go_wp2_with fail
  rw [← hO]
  generalize (w1.alloc (.cells #[.int .i64 (k : Int), .slice (some ⟨g, 0, none⟩) n n] 37)) = w2 at *
  clear hO
  go_loopw [8] (fun s8 wr => ∃ j : Nat, s8 = .int .i64 j ∧ j ≤ n ∧ Hid (Fill 0 g n PL j wr) ∧ Hid (Kept 0 0 w wr) ∧ Hid (Kept g (g + 1) w2 wr)) (fun s8 _ => n - (intOf s8).toNat)
  case atStart => exact ⟨0, rfl, Nat.zero_le _, F1, K2, Kept.refl _ _ _⟩
  case round =>
    clear F1 K2
    obtain ⟨j, rfl, hj, hF, kw, kg⟩ := hrel
    have hwj : IntKind.i64.wrap ((j : Int) + 1) = ((j + 1 : Nat) : Int) := by rw [IntKind.wrap_i64]; omega
    have hgw := unhide HGW
    have hgo := unhide HGO
    have hwrO : O < wr.heap.size := Nat.lt_of_lt_of_le hOl (unhide kg).size
    have C1 := (unhide kg).cellOut (a := ⟨w.heap.size, 1, none⟩) (by dsimp only; omega) c1'
    by_cases hlt : j < n
    · have hjl : j < ds1.length := by rw [unhide HL1]; exact hlt
      have hjl2 : j < ds2.length := by rw [unhide HL2]; exact hlt
      obtain ⟨gB, offB, lnB, hB, -, -, hgB, bB, kkB, b0, b1, b2, hlnB, rrB⟩ := (unhide R2).at (i := j) hjl2
      cases hB
      replace b0 := (unhide kw).cell0 b0
      replace b1 := (unhide kw).cell0 b1
      replace b2 := (unhide kw).cell0 b2
      replace rrB := rrB.kept (unhide kw) (by omega)
      have hokB := unhide HU2 j hjl2
      obtain ⟨sx, hsx⟩ : ∃ q, q = (ds2.getD j de0).1 := ⟨_, rfl⟩
      obtain ⟨yx, hyx⟩ : ∃ q, q = (ds2.getD j de0).2.2 := ⟨_, rfl⟩
      obtain ⟨zx, hzx⟩ : ∃ q, q = (ds2.getD j de0).2.1 := ⟨_, rfl⟩
      have hokB' : dokB sx zx yx = true := by rw [hsx, hyx, hzx]; exact hokB
      have HXE : Hid (ds2.getD j de0 = (sx, zx, yx)) := by show _ = _; rw [hsx, hyx, hzx]
      rw [← hsx] at b0
      rw [← hyx] at b2
      rw [← hzx] at rrB hlnB
      subst hlnB
      obtain ⟨gA, off, ln, hA, -, -, hgA, b, kk, c0, c1, c2, hln, rr⟩ := (unhide R1).at (i := j) hjl
      cases hA
      have hok := unhide HU1 j hjl
      obtain ⟨s0, hs0'⟩ : ∃ q, q = (ds1.getD j de0).1 := ⟨_, rfl⟩
      obtain ⟨y0, hy0⟩ : ∃ q, q = (ds1.getD j de0).2.2 := ⟨_, rfl⟩
      obtain ⟨z0, hz0⟩ : ∃ q, q = (ds1.getD j de0).2.1 := ⟨_, rfl⟩
      have hok' : dokB s0 z0 y0 = true := by rw [hs0', hy0, hz0]; exact hok
      have HAE : Hid (ds1.getD j de0 = (s0, z0, y0)) := by show _ = _; rw [hs0', hy0, hz0]
      rw [← hs0'] at c0
      rw [← hy0] at c2
      rw [← hz0] at rr hln
      subst hln
      obtain ⟨⟨s1, z1, y1⟩, hE⟩ : ∃ q, q = nE (sgV false ds1 ds2 j) (-3000) := ⟨_, rfl⟩
      have HE : Hid (PL.getD j de0 = (s1, z1, y1)) := by show _ = _; rw [unhide HPL, map_at _ _ _ hlt, hE]
      have HE2 := hide hE
      have B1 := (unhide kg).cellOut (a := ⟨w.heap.size + 1, 1, none⟩) (by dsimp only; omega) d1'
      have kX := (Kept.refl 0 0 wr).alloc (.cells #[.bool sx, .slice bB zx.length kkB, .int .i64 yx] 32)
      have x0 : (wr.alloc (.cells #[.bool sx, .slice bB zx.length kkB, .int .i64 yx] 32)).cell? ⟨wr.heap.size, 0, none⟩ = some (.bool sx) := new_cell2 _ _ _ _ _ _ rfl rfl
      have x1 : (wr.alloc (.cells #[.bool sx, .slice bB zx.length kkB, .int .i64 yx] 32)).cell? ⟨wr.heap.size, 1, none⟩ = some (.slice bB zx.length kkB) := new_cell2 _ _ _ _ _ _ rfl rfl
      have x2 : (wr.alloc (.cells #[.bool sx, .slice bB zx.length kkB, .int .i64 yx] 32)).cell? ⟨wr.heap.size, 2, none⟩ = some (.int .i64 yx) := new_cell2 _ _ _ _ _ _ rfl rfl
      have xf0 : (wr.alloc (.cells #[.bool sx, .slice bB zx.length kkB, .int .i64 yx] 32)).frozen? ⟨wr.heap.size, 0, none⟩ = false := new_loose2 _ _ _ _ _ rfl
      have xf1 : (wr.alloc (.cells #[.bool sx, .slice bB zx.length kkB, .int .i64 yx] 32)).frozen? ⟨wr.heap.size, 1, none⟩ = false := new_loose2 _ _ _ _ _ rfl
      have xf2 : (wr.alloc (.cells #[.bool sx, .slice bB zx.length kkB, .int .i64 yx] 32)).frozen? ⟨wr.heap.size, 2, none⟩ = false := new_loose2 _ _ _ _ _ rfl
      have rX := rrB.kept kX (by omega)
      obtain ⟨X, hX⟩ : ∃ X, X = wr.heap.size := ⟨_, rfl⟩
      have hXl : X < (wr.alloc (.cells #[.bool sx, .slice bB zx.length kkB, .int .i64 yx] 32)).heap.size := by simp [hX]
      have hsX : (wr.alloc (.cells #[.bool sx, .slice bB zx.length kkB, .int .i64 yx] 32)).heap.size = X + 1 := by simp [hX]
      have hwX : w.heap.size + 3 ≤ X := by have := (unhide kw).size; have := (unhide hF).lt; omega
      have hgX : g < X := by have := (unhide hF).lt; omega
      rw [← hX] at x0 x1 x2 xf0 xf1 xf2
      have HSX := hide hsX
      clear hsx hyx hzx hokB hs0' hy0 hz0 hok rrB hE hsX
      go_wp2_with fail
      rw [← hX]
      have HX0 := hide hX
      clear hX
      generalize (wr.alloc (.cells #[.bool sx, .slice bB zx.length kkB, .int .i64 yx] 32)) = wX at *
      have kd : Kept 0 0 wr wX.drew := kX.drew
      have kdY := (Kept.refl 0 0 wX).drew
      have O1 := kd.cell0 ((unhide kg).cellOut (a := ⟨O, 1, none⟩) (by dsimp only; omega) o1)
      have A1 := kd.cell0 ((unhide kg).cellOut (a := ⟨w.heap.size, 1, none⟩) (by dsimp only; omega) c1')
      replace c0 := kd.cell0 ((unhide kw).cell0 c0)
      replace c1 := kd.cell0 ((unhide kw).cell0 c1)
      replace c2 := kd.cell0 ((unhide kw).cell0 c2)
      replace rr := (rr.kept (unhide kw) (by omega)).kept kd (by omega)
      have X0 := kdY.cell0 x0
      have X1 := kdY.cell0 x1
      have X2 := kdY.cell0 x2
      have hml := add4_spec s0 sx y0 yx wX.drew rr (rX.kept kdY (by omega)) hok' hokB'
      have hE' : (s1, z1, y1) = nE (sumM (s0, z0, y0) (sx, zx, yx)) (min y0 yx) := by
        rw [unhide HE2, add_nE (a := (s0, z0, y0)) (b := (sx, zx, yx)) hok' hokB']
        unfold sgV
        rw [unhide HAE, unhide HXE]
        rw [if_neg (by decide)]
      have hE2' : (s1, z1, y1) = (wsg (wval s0 z0 * 2 ^ (y0 - min y0 yx).toNat + wval sx zx * 2 ^ (yx - min y0 yx).toNat), dlm (wval s0 z0 * 2 ^ (y0 - min y0 yx).toNat + wval sx zx * 2 ^ (yx - min y0 yx).toNat), dex (wval s0 z0 * 2 ^ (y0 - min y0 yx).toNat + wval sx zx * 2 ^ (yx - min y0 yx).toNat) (min y0 yx)) := hE'
      simp only [Prod.mk.injEq] at hE2'
      obtain ⟨p1, p2, p3⟩ := hE2'
      rw [← p1, ← p2, ← p3] at hml
      have KD := hide ((unhide kw).trans kd)
      have KGD := hide ((unhide kg).trans (kd.any))
      have FD := hide ((unhide hF).kept kd)
      clear hE' p1 p2 p3 kd kdY hF kw kg rr hok' hokB' x0 x1 x2 rX kX HAE HXE HE2
      clear xf0 xf1 xf2
      refine wp_region_held_drew (S := (fun w' => w'.cell? ⟨O, 1, none⟩ = some (.slice (some ⟨g, 0, none⟩) n n) ∧ w'.cell? ⟨w.heap.size, 1, none⟩ = some (.slice (some ⟨gA, off, none⟩) n e1) ∧ w'.cell? ⟨gA, off + j * 3, none⟩ = some (.bool s0) ∧ w'.cell? ⟨gA, off + j * 3 + 1, none⟩ = some (.slice b z0.length kk) ∧ w'.cell? ⟨gA, off + j * 3 + 2, none⟩ = some (.int .i64 y0) ∧ w'.cell? ⟨X, 0, none⟩ = some (.bool sx) ∧ w'.cell? ⟨X, 1, none⟩ = some (.slice bB zx.length kkB) ∧ w'.cell? ⟨X, 2, none⟩ = some (.int .i64 yx))) (by kernel_rfl) ?_ (fun hHeld => ?_)
      · exact ⟨O1, A1, c0, c1, c2, X0, X1, X2⟩
      refine wpAnyH_take (i := 0) (oi := _) (v := .pointer (some ⟨O, 1, none⟩)) rfl (by kernel_rfl) (by kernel_rfl) (by kernel_rfl) (fun _ _ _ h => h) (Or.inl ⟨by rfl, ?_⟩) hHeld ?_
      · intro wq hSw
        try dsimp only at hSw
        go_simp
      try simp only [Act.put, List.getElem_toArray, List.getElem_cons_succ, List.getElem_cons_zero, List.setIfInBounds_toArray, List.set_cons_zero, List.set_cons_succ]
      refine wpAnyH_take (i := 1) (oi := _) (v := .slice (some ⟨g, 0, none⟩) n n) rfl (by kernel_rfl) (by kernel_rfl) (by kernel_rfl) (fun _ _ _ h => h) (Or.inl ⟨by rfl, ?_⟩) hHeld ?_
      · intro wq hSw
        try dsimp only at hSw
        go_simp
      try simp only [Act.put, List.getElem_toArray, List.getElem_cons_succ, List.getElem_cons_zero, List.setIfInBounds_toArray, List.set_cons_zero, List.set_cons_succ]
      refine wpAnyH_take (i := 2) (oi := _) (v := .int .i64 (j : Int)) rfl (by kernel_rfl) (by kernel_rfl) (by kernel_rfl) (fun _ _ _ h => h) (Or.inl ⟨by rfl, ?_⟩) hHeld ?_
      · intro wq hSw
        try dsimp only at hSw
        go_simp
      try simp only [Act.put, List.getElem_toArray, List.getElem_cons_succ, List.getElem_cons_zero, List.setIfInBounds_toArray, List.set_cons_zero, List.set_cons_succ]
      refine wpAnyH_take (i := 3) (oi := _) (v := .pointer (some ⟨w.heap.size, 1, none⟩)) rfl (by kernel_rfl) (by kernel_rfl) (by kernel_rfl) (fun _ _ _ h => h) (Or.inl ⟨by rfl, ?_⟩) hHeld ?_
      · intro wq hSw
        try dsimp only at hSw
        go_simp
      try simp only [Act.put, List.getElem_toArray, List.getElem_cons_succ, List.getElem_cons_zero, List.setIfInBounds_toArray, List.set_cons_zero, List.set_cons_succ]
      refine wpAnyH_take (i := 4) (oi := _) (v := .slice (some ⟨gA, off, none⟩) n e1) rfl (by kernel_rfl) (by kernel_rfl) (by kernel_rfl) (fun _ _ _ h => h) (Or.inl ⟨by rfl, ?_⟩) hHeld ?_
      · intro wq hSw
        try dsimp only at hSw
        go_simp
      try simp only [Act.put, List.getElem_toArray, List.getElem_cons_succ, List.getElem_cons_zero, List.setIfInBounds_toArray, List.set_cons_zero, List.set_cons_succ]
      refine wpAnyH_take (i := 5) (oi := _) (v := .int .i64 (j : Int)) rfl (by kernel_rfl) (by kernel_rfl) (by kernel_rfl) (fun _ _ _ h => h) (Or.inl ⟨by rfl, ?_⟩) hHeld ?_
      · intro wq hSw
        try dsimp only at hSw
        go_simp
      try simp only [Act.put, List.getElem_toArray, List.getElem_cons_succ, List.getElem_cons_zero, List.setIfInBounds_toArray, List.set_cons_zero, List.set_cons_succ]
      refine wpAnyH_take (i := 6) (oi := _) (v := .pointer (some ⟨gA, off + j * 3, none⟩)) rfl (by kernel_rfl) (by kernel_rfl) (by kernel_rfl) (fun _ _ _ h => h) (Or.inl ⟨by rfl, ?_⟩) hHeld ?_
      · intro wq hSw
        try dsimp only at hSw
        go_simp
      try simp only [Act.put, List.getElem_toArray, List.getElem_cons_succ, List.getElem_cons_zero, List.setIfInBounds_toArray, List.set_cons_zero, List.set_cons_succ]
      refine wpAnyH_take (i := 7) (oi := _) (v := .agg #[.bool s0, .slice b z0.length kk, .int .i64 y0]) rfl (by kernel_rfl) (by kernel_rfl) (by kernel_rfl) (fun _ _ _ h => h) (Or.inl ⟨by rfl, ?_⟩) hHeld ?_
      · intro wq hSw
        try dsimp only at hSw
        go_simp
      try simp only [Act.put, List.getElem_toArray, List.getElem_cons_succ, List.getElem_cons_zero, List.setIfInBounds_toArray, List.set_cons_zero, List.set_cons_succ]
      refine wpAnyH_take (i := 8) (oi := _) (v := .agg #[.bool sx, .slice bB zx.length kkB, .int .i64 yx]) rfl (by kernel_rfl) (by kernel_rfl) (by kernel_rfl) (fun _ _ _ h => h) (Or.inl ⟨by rfl, ?_⟩) hHeld ?_
      · intro wq hSw
        try dsimp only at hSw
        go_simp
      try simp only [Act.put, List.getElem_toArray, List.getElem_cons_succ, List.getElem_cons_zero, List.setIfInBounds_toArray, List.set_cons_zero, List.set_cons_succ]
      refine wpAnyH_ready (rs := [9]) (by kernel_rfl) (by simp) ?_
      refine AllReadyH.cons rfl (fun KK hK => ?_) AllReadyH.nil
      simp only [List.getElem_toArray, List.getElem_cons_succ, List.getElem_cons_zero]
      rw [if_pos (by rfl)]
      refine wps2 50 (.tmp 35) (.tmp 36) _ rfl in_l4add (.agg #[.bool s0, .slice b z0.length kk, .int .i64 y0]) (.agg #[.bool sx, .slice bB zx.length kkB, .int .i64 yx]) rfl rfl hml ?_
      rintro e w3 ⟨v3, rfl, r3, k3⟩
      refine ⟨_, rfl, ?_⟩
      obtain ⟨a3, d3, hv3⟩ := Row.form' r3
      subst hv3
      replace O1 := k3.cell0 O1
      replace A1 := k3.cell0 A1
      replace c0 := k3.cell0 c0
      replace c1 := k3.cell0 c1
      replace c2 := k3.cell0 c2
      replace X0 := k3.cell0 X0
      replace X1 := k3.cell0 X1
      replace X2 := k3.cell0 X2
      have F4 := hide ((unhide FD).step hlt k3 r3 (unhide HE))
      have hFl := (unhide FD).lt
      obtain ⟨m0, hm0⟩ := (unhide FD).cell (j * 3) (by omega)
      obtain ⟨m1, hm1⟩ := (unhide FD).cell (j * 3 + 1) (by omega)
      obtain ⟨m2, hm2⟩ := (unhide FD).cell (j * 3 + 2) (by omega)
      have fg0 := k3.loose0 (a := ⟨g, j * 3, none⟩) hFl ((unhide FD).loose (j * 3) (by omega))
      have fg1 := k3.loose0 (a := ⟨g, j * 3 + 1, none⟩) hFl ((unhide FD).loose (j * 3 + 1) (by omega))
      have fg2 := k3.loose0 (a := ⟨g, j * 3 + 2, none⟩) hFl ((unhide FD).loose (j * 3 + 2) (by omega))
      replace hm0 := k3.cell0 hm0
      replace hm1 := k3.cell0 hm1
      replace hm2 := k3.cell0 hm2
      have K4 := hide ((unhide KD).trans k3)
      have KG4 := hide ((unhide KGD).trans k3.any)
      clear hml r3 k3 FD KD KGD hFl
      clear hHeld
      refine hK.out _ _ ?_ (fun hHeld => ?_)
      · exact ⟨O1, A1, c0, c1, c2, X0, X1, X2⟩
      clear hK KK
      try simp only [Act.put, List.getElem_toArray, List.getElem_cons_succ, List.getElem_cons_zero, List.setIfInBounds_toArray, List.set_cons_zero, List.set_cons_succ]
      refine wpAnyH_take (i := 10) (oi := _) (v := .pointer (some ⟨g, j * 3, none⟩)) rfl (by kernel_rfl) (by kernel_rfl) (by kernel_rfl) (fun _ _ _ h => h) (Or.inl ⟨by rfl, ?_⟩) hHeld ?_
      · intro wq hSw
        try dsimp only at hSw
        go_simp
      try simp only [Act.put, List.getElem_toArray, List.getElem_cons_succ, List.getElem_cons_zero, List.setIfInBounds_toArray, List.set_cons_zero, List.set_cons_succ]
      refine wpAnyH_ready (rs := [11]) (by kernel_rfl) (by simp) ?_
      refine AllReadyH.cons rfl (fun KK hK => ?_) AllReadyH.nil
      simp only [List.getElem_toArray, List.getElem_cons_succ, List.getElem_cons_zero]
      rw [if_pos (by rfl)]
      go_simp
      clear hHeld
      refine hK.out _ _ ?_ (fun hHeld => ?_)
      · exact ⟨(cell_aside _ (by dsimp only; omega) (cell_aside _ (by dsimp only; omega) (cell_aside _ (by dsimp only; omega) O1))), (cell_aside _ (by dsimp only; omega) (cell_aside _ (by dsimp only; omega) (cell_aside _ (by dsimp only; omega) A1))), (cell_aside _ (by dsimp only; omega) (cell_aside _ (by dsimp only; omega) (cell_aside _ (by dsimp only; omega) c0))), (cell_aside _ (by dsimp only; omega) (cell_aside _ (by dsimp only; omega) (cell_aside _ (by dsimp only; omega) c1))), (cell_aside _ (by dsimp only; omega) (cell_aside _ (by dsimp only; omega) (cell_aside _ (by dsimp only; omega) c2))), (cell_aside _ (by dsimp only; omega) (cell_aside _ (by dsimp only; omega) (cell_aside _ (by dsimp only; omega) X0))), (cell_aside _ (by dsimp only; omega) (cell_aside _ (by dsimp only; omega) (cell_aside _ (by dsimp only; omega) X1))), (cell_aside _ (by dsimp only; omega) (cell_aside _ (by dsimp only; omega) (cell_aside _ (by dsimp only; omega) X2)))⟩
      clear hK KK
      try simp only [Act.put, List.getElem_toArray, List.getElem_cons_succ, List.getElem_cons_zero, List.setIfInBounds_toArray, List.set_cons_zero, List.set_cons_succ]
      refine wpAnyH_done (by kernel_rfl) ?_ _
      clear hHeld
      have ks : Kept g (g + 1) w3 (((w3.setCell ⟨g, j * 3, none⟩ (.bool s1)).setCell ⟨g, j * 3 + 1, none⟩ (.slice a3 z1.length d3)).setCell ⟨g, j * 3 + 2, none⟩ (.int .i64 y1)) := (((Kept.refl _ _ _).setCell (p := ⟨g, j * 3, none⟩) (Nat.le_refl _) (Nat.lt_succ_self _) _).setCell (p := ⟨g, j * 3 + 1, none⟩) (Nat.le_refl _) (Nat.lt_succ_self _) _).setCell (p := ⟨g, j * 3 + 2, none⟩) (Nat.le_refl _) (Nat.lt_succ_self _) _
      have K5 := hide ((unhide K4).wide ks (by omega))
      have KG5 := hide ((unhide KG4).trans ks)
      clear ks K4 KG4 O1 A1 c0 c1 c2 X0 X1 X2 hm0 hm1 hm2 fg0 fg1 fg2 hgA hgB b0 b1 b2 B1 C1
      go_wp2
      go_roundw
      case rel => exact ⟨j + 1, by simp, hlt, F4, K5, KG5⟩
      case measure => simp [intOf]; omega
    · have hjn : j = n := by omega
      subst hjn
      have D := (unhide hF).done (unhide HPN) (by unfold maxLen; omega)
      have Q0 := (unhide kg).cellOut (a := ⟨w.heap.size + 1 + 1, 0, none⟩) (by dsimp only; omega) q0'
      have Q1 := (unhide kg).cellOut (a := ⟨w.heap.size + 1 + 1, 1, none⟩) (by dsimp only; omega) q1'
      have Qf0 := (unhide kg).looseOut (a := ⟨w.heap.size + 1 + 1, 0, none⟩) (by dsimp only; omega) (World.block_lt_of_cell? _ _ q0') f0'
      have Qf1 := (unhide kg).looseOut (a := ⟨w.heap.size + 1 + 1, 1, none⟩) (by dsimp only; omega) (World.block_lt_of_cell? _ _ q1') f1'
      have O0 := (unhide kg).cellOut (a := ⟨O, 0, none⟩) (by dsimp only; omega) o0
      have O1 := (unhide kg).cellOut (a := ⟨O, 1, none⟩) (by dsimp only; omega) o1
      have ks : Kept (w.heap.size + 1 + 1) (w.heap.size + 1 + 1 + 1) wr ((wr.setCell ⟨w.heap.size + 1 + 1, 0, none⟩ (.int .i64 (k : Int))).setCell ⟨w.heap.size + 1 + 1, 1, none⟩ (.slice (some ⟨g, 0, none⟩) j j)) :=
        ((Kept.refl _ _ _).setCell (p := ⟨w.heap.size + 1 + 1, 0, none⟩) (Nat.le_refl _) (Nat.lt_succ_self _) _).setCell (p := ⟨w.heap.size + 1 + 1, 1, none⟩) (Nat.le_refl _) (Nat.lt_succ_self _) _
      have hsz : ((wr.setCell ⟨w.heap.size + 1 + 1, 0, none⟩ (.int .i64 (k : Int))).setCell ⟨w.heap.size + 1 + 1, 1, none⟩ (.slice (some ⟨g, 0, none⟩) j j)).heap.size = wr.heap.size := by rw [size_set, size_set]
      have DD := hide ((D.kept ks (by omega)).wider (lo' := w.heap.size) (hi' := ((wr.setCell ⟨w.heap.size + 1 + 1, 0, none⟩ (.int .i64 (k : Int))).setCell ⟨w.heap.size + 1 + 1, 1, none⟩ (.slice (some ⟨g, 0, none⟩) j j)).heap.size) (by omega) (by omega))
      have K7 := hide ((unhide kw).wide ks (by omega))
      have G0 := cell_off _ _ _ 1 (.slice (some ⟨g, 0, none⟩) j j) _ (cell_on _ _ _ (.int .i64 (k : Int)) _ Q0) (show (0 : Nat) ≠ 1 by omega)
      have G1 := cell_on _ _ _ (.slice (some ⟨g, 0, none⟩) j j) _ (cell_off _ _ _ 0 (.int .i64 (k : Int)) _ Q1 (show (1 : Nat) ≠ 0 by omega))
      clear hF kw kg D ks hsz hgw hgo
      go_wp2
      exact bodyPost_ret (v := .agg #[.int .i64 (k : Int), .slice (some ⟨g, 0, none⟩) j j]) (by simp [results, Tryz.results39, go_sem, G0, G1]) rfl ⟨.slice (some ⟨g, 0, none⟩) j j, rfl, unhide DD, unhide K7⟩

set_option maxHeartbeats 16000000 in
theorem add8t_spec {k lo1 hi1 lo2 hi2 : Nat} {v1 v2 : Value} {ds1 ds2 : List DE} (n2 : Int) (w : World) (hk : k ≤ 4) (hl1 : ds1.length = k * k) (hl2 : ds2.length = k * k) (U1 : ∀ i, i < ds1.length → dokB (ds1.getD i de0).1 (ds1.getD i de0).2.1 (ds1.getD i de0).2.2 = true) (U2 : ∀ i, i < ds2.length → dokB (ds2.getD i de0).1 (ds2.getD i de0).2.1 (ds2.getD i de0).2.2 = true) (r1 : Dys lo1 hi1 w v1 ds1) (r2 : Dys lo2 hi2 w v2 ds2) :
    Calls Tryz.prog 39 #[.agg #[.int .i64 (k : Int), v1], .agg #[.int .i64 n2, v2], .bool true] w fun e w' => ∃ v', e = .returned (.agg #[.int .i64 (k : Int), v']) ∧ DysO w.heap.size w'.heap.size w' v' ((List.range (k * k)).map fun p => nE (sgV true ds1 ds2 p) (-3000)) ∧ Kept 0 0 w w' := by
  obtain ⟨W, hW⟩ : ∃ W, W = ((w.alloc (.cells #[.int .i64 (k : Int), v1] 37)).alloc (.cells #[.int .i64 n2, v2] 37)).alloc (.cells #[.int .i64 0, .slice none 0 0] 37) := ⟨_, rfl⟩
  have k0 : Kept 0 0 w W := by rw [hW]; exact (((Kept.refl 0 0 w).alloc _).alloc _).alloc _
  have c0 : W.cell? ⟨w.heap.size, 0, none⟩ = some (.int .i64 (k : Int)) := by rw [hW]; exact old_cell _ (old_cell _ (new_cell2 _ _ _ _ _ _ (by simp) rfl))
  have c1 : W.cell? ⟨w.heap.size, 1, none⟩ = some v1 := by rw [hW]; exact old_cell _ (old_cell _ (new_cell2 _ _ _ _ _ _ (by simp) rfl))
  have d1 : W.cell? ⟨w.heap.size + 1, 1, none⟩ = some v2 := by rw [hW]; exact old_cell _ (new_cell2 _ _ _ _ _ _ (by simp) rfl)
  have q0 : W.cell? ⟨w.heap.size + 1 + 1, 0, none⟩ = some (.int .i64 0) := by rw [hW]; exact new_cell2 _ _ _ _ _ _ (by simp) rfl
  have q1 : W.cell? ⟨w.heap.size + 1 + 1, 1, none⟩ = some (.slice none 0 0) := by rw [hW]; exact new_cell2 _ _ _ _ _ _ (by simp) rfl
  have f0 : W.frozen? ⟨w.heap.size + 1 + 1, 0, none⟩ = false := by rw [hW]; exact new_loose2 _ _ _ _ _ (by simp)
  have f1 : W.frozen? ⟨w.heap.size + 1 + 1, 1, none⟩ = false := by rw [hW]; exact new_loose2 _ _ _ _ _ (by simp)
  have sW : W.heap.size = w.heap.size + 3 := by rw [hW]; simp
  have h16 : k * k ≤ 4 * 4 := Nat.mul_le_mul hk hk
  obtain ⟨n, hnn⟩ : ∃ n, n = k * k := ⟨_, rfl⟩
  obtain ⟨PL, hPL⟩ : ∃ PL, PL = (List.range n).map fun p => nE (sgV true ds1 ds2 p) (-3000) := ⟨_, rfl⟩
  have hn8 := new8_spec hk W PL
  rw [← hnn] at hn8 h16 hl1 hl2 ⊢
  rw [← hPL]
  obtain ⟨a1, e1, rfl, -, -⟩ := r1.form
  obtain ⟨a2, e2, rfl, -, -⟩ := r2.form
  rw [hl1] at r1 c1 hW
  rw [hl2] at r2 d1 hW
  rw [hl1, hl2]
  have R1 := hide r1
  have R2 := hide r2
  have HPL := hide hPL
  have HL1 := hide hl1
  have HL2 := hide hl2
  have HU1 := hide U1
  have HU2 := hide U2
  have SW := hide sW
  have HPN := hide (show n = PL.length by rw [hPL]; simp)
  rw [hW] at hn8
  clear r1 r2 hPL U1 U2 sW hl1 hl2 hnn
  go_enter Tryz.func39, Tryz.ntmps39
  go_wp2_with fail
  refine hn8.mono ?_
  rw [← hW]
  rintro e w1 ⟨g, rfl, F0, hg, k1⟩
  clear hn8 hW
  obtain ⟨O, hO⟩ : ∃ O, O = w1.heap.size := ⟨_, rfl⟩
  have o0 : (w1.alloc (.cells #[.int .i64 (k : Int), .slice (some ⟨g, 0, none⟩) n n] 37)).cell? ⟨O, 0, none⟩ = some (.int .i64 (k : Int)) := new_cell2 _ _ _ _ _ _ hO rfl
  have o1 : (w1.alloc (.cells #[.int .i64 (k : Int), .slice (some ⟨g, 0, none⟩) n n] 37)).cell? ⟨O, 1, none⟩ = some (.slice (some ⟨g, 0, none⟩) n n) := new_cell2 _ _ _ _ _ _ hO rfl
  have k2 := (Kept.refl 0 0 w1).alloc (.cells #[.int .i64 (k : Int), .slice (some ⟨g, 0, none⟩) n n] 37)
  have hgO : g < O := by have := F0.lt; omega
  have hOl : O < (w1.alloc (.cells #[.int .i64 (k : Int), .slice (some ⟨g, 0, none⟩) n n] 37)).heap.size := World.block_lt_of_cell? _ _ o0
  have kk := k1.trans k2
  have c1' := kk.cell0 c1
  have d1' := kk.cell0 d1
  have q0' := kk.cell0 q0
  have q1' := kk.cell0 q1
  have f0' := kk.loose0 (World.block_lt_of_cell? _ _ q0) f0
  have f1' := kk.loose0 (World.block_lt_of_cell? _ _ q1) f1
  have F1 := hide (F0.kept k2)
  have K2 := hide (k0.trans kk)
  have sW := unhide SW
  have hgw : w.heap.size + 3 ≤ g := by omega
  have HGW := hide hgw
  have HGO := hide (show g < O from hgO)
  clear F0 k0 k1 k2 kk c0 c1 d1 q0 q1 f0 f1 hg sW hgw hgO
  go_wp2_with fail
  rw [← hO]
  generalize (w1.alloc (.cells #[.int .i64 (k : Int), .slice (some ⟨g, 0, none⟩) n n] 37)) = w2 at *
  clear hO
  go_loopw [8] (fun s8 wr => ∃ j : Nat, s8 = .int .i64 j ∧ j ≤ n ∧ Hid (Fill 0 g n PL j wr) ∧ Hid (Kept 0 0 w wr) ∧ Hid (Kept g (g + 1) w2 wr)) (fun s8 _ => n - (intOf s8).toNat)
  case atStart => exact ⟨0, rfl, Nat.zero_le _, F1, K2, Kept.refl _ _ _⟩
  case round =>
    clear F1 K2
    obtain ⟨j, rfl, hj, hF, kw, kg⟩ := hrel
    have hwj : IntKind.i64.wrap ((j : Int) + 1) = ((j + 1 : Nat) : Int) := by rw [IntKind.wrap_i64]; omega
    have hgw := unhide HGW
    have hgo := unhide HGO
    have hwrO : O < wr.heap.size := Nat.lt_of_lt_of_le hOl (unhide kg).size
    have C1 := (unhide kg).cellOut (a := ⟨w.heap.size, 1, none⟩) (by dsimp only; omega) c1'
    by_cases hlt : j < n
    · have hjl : j < ds1.length := by rw [unhide HL1]; exact hlt
      have hjl2 : j < ds2.length := by rw [unhide HL2]; exact hlt
      obtain ⟨gB, offB, lnB, hB, -, -, hgB, bB, kkB, b0, b1, b2, hlnB, rrB⟩ := (unhide R2).at (i := j) hjl2
      cases hB
      replace b0 := (unhide kw).cell0 b0
      replace b1 := (unhide kw).cell0 b1
      replace b2 := (unhide kw).cell0 b2
      replace rrB := rrB.kept (unhide kw) (by omega)
      have hokB := unhide HU2 j hjl2
      obtain ⟨sx, hsx⟩ : ∃ q, q = (ds2.getD j de0).1 := ⟨_, rfl⟩
      obtain ⟨yx, hyx⟩ : ∃ q, q = (ds2.getD j de0).2.2 := ⟨_, rfl⟩
      obtain ⟨zx, hzx⟩ : ∃ q, q = (ds2.getD j de0).2.1 := ⟨_, rfl⟩
      have hokB' : dokB sx zx yx = true := by rw [hsx, hyx, hzx]; exact hokB
      have HXE : Hid (ds2.getD j de0 = (sx, zx, yx)) := by show _ = _; rw [hsx, hyx, hzx]
      rw [← hsx] at b0
      rw [← hyx] at b2
      rw [← hzx] at rrB hlnB
      subst hlnB
      obtain ⟨gA, off, ln, hA, -, -, hgA, b, kk, c0, c1, c2, hln, rr⟩ := (unhide R1).at (i := j) hjl
      cases hA
      have hok := unhide HU1 j hjl
      obtain ⟨s0, hs0'⟩ : ∃ q, q = (ds1.getD j de0).1 := ⟨_, rfl⟩
      obtain ⟨y0, hy0⟩ : ∃ q, q = (ds1.getD j de0).2.2 := ⟨_, rfl⟩
      obtain ⟨z0, hz0⟩ : ∃ q, q = (ds1.getD j de0).2.1 := ⟨_, rfl⟩
      have hok' : dokB s0 z0 y0 = true := by rw [hs0', hy0, hz0]; exact hok
      have HAE : Hid (ds1.getD j de0 = (s0, z0, y0)) := by show _ = _; rw [hs0', hy0, hz0]
      rw [← hs0'] at c0
      rw [← hy0] at c2
      rw [← hz0] at rr hln
      subst hln
      obtain ⟨⟨s1, z1, y1⟩, hE⟩ : ∃ q, q = nE (sgV true ds1 ds2 j) (-3000) := ⟨_, rfl⟩
      have HE : Hid (PL.getD j de0 = (s1, z1, y1)) := by show _ = _; rw [unhide HPL, map_at _ _ _ hlt, hE]
      have HE2 := hide hE
      have B1 := (unhide kg).cellOut (a := ⟨w.heap.size + 1, 1, none⟩) (by dsimp only; omega) d1'
      have kX := (Kept.refl 0 0 wr).alloc (.cells #[.bool sx, .slice bB zx.length kkB, .int .i64 yx] 32)
      have x0 : (wr.alloc (.cells #[.bool sx, .slice bB zx.length kkB, .int .i64 yx] 32)).cell? ⟨wr.heap.size, 0, none⟩ = some (.bool sx) := new_cell2 _ _ _ _ _ _ rfl rfl
      have x1 : (wr.alloc (.cells #[.bool sx, .slice bB zx.length kkB, .int .i64 yx] 32)).cell? ⟨wr.heap.size, 1, none⟩ = some (.slice bB zx.length kkB) := new_cell2 _ _ _ _ _ _ rfl rfl
      have x2 : (wr.alloc (.cells #[.bool sx, .slice bB zx.length kkB, .int .i64 yx] 32)).cell? ⟨wr.heap.size, 2, none⟩ = some (.int .i64 yx) := new_cell2 _ _ _ _ _ _ rfl rfl
      have xf0 : (wr.alloc (.cells #[.bool sx, .slice bB zx.length kkB, .int .i64 yx] 32)).frozen? ⟨wr.heap.size, 0, none⟩ = false := new_loose2 _ _ _ _ _ rfl
      have xf1 : (wr.alloc (.cells #[.bool sx, .slice bB zx.length kkB, .int .i64 yx] 32)).frozen? ⟨wr.heap.size, 1, none⟩ = false := new_loose2 _ _ _ _ _ rfl
      have xf2 : (wr.alloc (.cells #[.bool sx, .slice bB zx.length kkB, .int .i64 yx] 32)).frozen? ⟨wr.heap.size, 2, none⟩ = false := new_loose2 _ _ _ _ _ rfl
      have rX := rrB.kept kX (by omega)
      obtain ⟨X, hX⟩ : ∃ X, X = wr.heap.size := ⟨_, rfl⟩
      have hXl : X < (wr.alloc (.cells #[.bool sx, .slice bB zx.length kkB, .int .i64 yx] 32)).heap.size := by simp [hX]
      have hsX : (wr.alloc (.cells #[.bool sx, .slice bB zx.length kkB, .int .i64 yx] 32)).heap.size = X + 1 := by simp [hX]
      have hwX : w.heap.size + 3 ≤ X := by have := (unhide kw).size; have := (unhide hF).lt; omega
      have hgX : g < X := by have := (unhide hF).lt; omega
      rw [← hX] at x0 x1 x2 xf0 xf1 xf2
      have HSX := hide hsX
      clear hsx hyx hzx hokB hs0' hy0 hz0 hok rrB hE hsX
      go_wp2_with fail
      rw [← hX]
      have HX0 := hide hX
      clear hX
      generalize (wr.alloc (.cells #[.bool sx, .slice bB zx.length kkB, .int .i64 yx] 32)) = wX at *
      have hng := neg4_spec sx yx wX rX (wok_int (dok_parts hokB').1).2.2.2 (by have := (wok_int (dok_parts hokB').1).2.2.1; omega)
      obtain ⟨sn, hsn⟩ : ∃ q, q = wsg (-wval sx zx) := ⟨_, rfl⟩
      obtain ⟨zn, hzn⟩ : ∃ q, q = wlm (-wval sx zx) := ⟨_, rfl⟩
      have hokN : dokB sn zn yx = true := by rw [hsn, hzn]; exact (dok_neg hokB').1
      have HVN : Hid (dv (-3000) (sn, zn, yx) = -dv (-3000) (sx, zx, yx)) := by show _ = _; rw [hsn, hzn]; exact neg_dv hokB'
      rw [← hsn, ← hzn] at hng
      clear hsn hzn hokB'
      refine hng.mono ?_
      rintro e wn ⟨vn, rfl, rn, kn⟩
      obtain ⟨an, cn, hvn⟩ := Row.form' rn
      subst hvn
      replace xf0 := kn.loose0 (World.block_lt_of_cell? _ _ x0) xf0
      replace xf1 := kn.loose0 (World.block_lt_of_cell? _ _ x1) xf1
      replace xf2 := kn.loose0 (World.block_lt_of_cell? _ _ x2) xf2
      replace x0 := kn.cell0 x0
      replace x1 := kn.cell0 x1
      replace x2 := kn.cell0 x2
      have hsn2 := kn.size
      have ks0 : Kept X (X + 1) wn (((wn.setCell ⟨X, 0, none⟩ (.bool sn)).setCell ⟨X, 1, none⟩ (.slice an zn.length cn)).setCell ⟨X, 2, none⟩ (.int .i64 yx)) := (((Kept.refl _ _ _).setCell (p := ⟨X, 0, none⟩) (Nat.le_refl _) (Nat.lt_succ_self _) _).setCell (p := ⟨X, 1, none⟩) (Nat.le_refl _) (Nat.lt_succ_self _) _).setCell (p := ⟨X, 2, none⟩) (Nat.le_refl _) (Nat.lt_succ_self _) _
      have y0x := cell_off _ _ _ 2 (.int .i64 yx) _ (cell_off _ _ _ 1 (.slice an zn.length cn) _ (cell_on _ _ _ (.bool sn) _ x0) (show (0 : Nat) ≠ 1 by omega)) (show (0 : Nat) ≠ 2 by omega)
      have y1x := cell_off _ _ _ 2 (.int .i64 yx) _ (cell_on _ _ _ (.slice an zn.length cn) _ (cell_off _ _ _ 0 (.bool sn) _ x1 (show (1 : Nat) ≠ 0 by omega))) (show (1 : Nat) ≠ 2 by omega)
      have y2x := cell_on _ _ _ (.int .i64 yx) _ (cell_off _ _ _ 1 (.slice an zn.length cn) _ (cell_off _ _ _ 0 (.bool sn) _ x2 (show (2 : Nat) ≠ 0 by omega)) (show (2 : Nat) ≠ 1 by omega))
      have hsX := unhide HSX
      have rN := rn.kept ks0 (by omega)
      have kXn : Kept 0 0 wr (((wn.setCell ⟨X, 0, none⟩ (.bool sn)).setCell ⟨X, 1, none⟩ (.slice an zn.length cn)).setCell ⟨X, 2, none⟩ (.int .i64 yx)) := (kX.trans kn).wide ks0 (by have := unhide HX0; omega)
      clear hng rn kn ks0 hsX
      go_wp2_with fail
      generalize (((wn.setCell ⟨X, 0, none⟩ (.bool sn)).setCell ⟨X, 1, none⟩ (.slice an zn.length cn)).setCell ⟨X, 2, none⟩ (.int .i64 yx)) = wY at *
      have kd : Kept 0 0 wr wY.drew := kXn.drew
      have kdY := (Kept.refl 0 0 wY).drew
      have O1 := kd.cell0 ((unhide kg).cellOut (a := ⟨O, 1, none⟩) (by dsimp only; omega) o1)
      have A1 := kd.cell0 ((unhide kg).cellOut (a := ⟨w.heap.size, 1, none⟩) (by dsimp only; omega) c1')
      replace c0 := kd.cell0 ((unhide kw).cell0 c0)
      replace c1 := kd.cell0 ((unhide kw).cell0 c1)
      replace c2 := kd.cell0 ((unhide kw).cell0 c2)
      replace rr := (rr.kept (unhide kw) (by omega)).kept kd (by omega)
      have X0 := kdY.cell0 y0x
      have X1 := kdY.cell0 y1x
      have X2 := kdY.cell0 y2x
      have hml := add4_spec s0 sn y0 yx wY.drew rr (rN.kept kdY (by omega)) hok' hokN
      have hE' : (s1, z1, y1) = nE (sumM (s0, z0, y0) (sn, zn, yx)) (min y0 yx) := by
        rw [unhide HE2, add_nE (a := (s0, z0, y0)) (b := (sn, zn, yx)) hok' hokN]
        unfold sgV
        rw [unhide HAE, unhide HXE]
        rw [if_pos rfl, unhide HVN]
      have hE2' : (s1, z1, y1) = (wsg (wval s0 z0 * 2 ^ (y0 - min y0 yx).toNat + wval sn zn * 2 ^ (yx - min y0 yx).toNat), dlm (wval s0 z0 * 2 ^ (y0 - min y0 yx).toNat + wval sn zn * 2 ^ (yx - min y0 yx).toNat), dex (wval s0 z0 * 2 ^ (y0 - min y0 yx).toNat + wval sn zn * 2 ^ (yx - min y0 yx).toNat) (min y0 yx)) := hE'
      simp only [Prod.mk.injEq] at hE2'
      obtain ⟨p1, p2, p3⟩ := hE2'
      rw [← p1, ← p2, ← p3] at hml
      have KD := hide ((unhide kw).trans kd)
      have KGD := hide ((unhide kg).trans (kd.any))
      have FD := hide ((unhide hF).kept kd)
      clear hE' p1 p2 p3 kd kdY hF kw kg rr hok' hokN y0x y1x y2x rN kXn HAE HXE HE2
      clear HVN kX x0 x1 x2 xf0 xf1 xf2 rX
      refine wp_region_held_drew (S := (fun w' => w'.cell? ⟨O, 1, none⟩ = some (.slice (some ⟨g, 0, none⟩) n n) ∧ w'.cell? ⟨w.heap.size, 1, none⟩ = some (.slice (some ⟨gA, off, none⟩) n e1) ∧ w'.cell? ⟨gA, off + j * 3, none⟩ = some (.bool s0) ∧ w'.cell? ⟨gA, off + j * 3 + 1, none⟩ = some (.slice b z0.length kk) ∧ w'.cell? ⟨gA, off + j * 3 + 2, none⟩ = some (.int .i64 y0) ∧ w'.cell? ⟨X, 0, none⟩ = some (.bool sn) ∧ w'.cell? ⟨X, 1, none⟩ = some (.slice an zn.length cn) ∧ w'.cell? ⟨X, 2, none⟩ = some (.int .i64 yx))) (by kernel_rfl) ?_ (fun hHeld => ?_)
      · exact ⟨O1, A1, c0, c1, c2, X0, X1, X2⟩
      refine wpAnyH_take (i := 0) (oi := _) (v := .pointer (some ⟨O, 1, none⟩)) rfl (by kernel_rfl) (by kernel_rfl) (by kernel_rfl) (fun _ _ _ h => h) (Or.inl ⟨by rfl, ?_⟩) hHeld ?_
      · intro wq hSw
        try dsimp only at hSw
        go_simp
      try simp only [Act.put, List.getElem_toArray, List.getElem_cons_succ, List.getElem_cons_zero, List.setIfInBounds_toArray, List.set_cons_zero, List.set_cons_succ]
      refine wpAnyH_take (i := 1) (oi := _) (v := .slice (some ⟨g, 0, none⟩) n n) rfl (by kernel_rfl) (by kernel_rfl) (by kernel_rfl) (fun _ _ _ h => h) (Or.inl ⟨by rfl, ?_⟩) hHeld ?_
      · intro wq hSw
        try dsimp only at hSw
        go_simp
      try simp only [Act.put, List.getElem_toArray, List.getElem_cons_succ, List.getElem_cons_zero, List.setIfInBounds_toArray, List.set_cons_zero, List.set_cons_succ]
      refine wpAnyH_take (i := 2) (oi := _) (v := .int .i64 (j : Int)) rfl (by kernel_rfl) (by kernel_rfl) (by kernel_rfl) (fun _ _ _ h => h) (Or.inl ⟨by rfl, ?_⟩) hHeld ?_
      · intro wq hSw
        try dsimp only at hSw
        go_simp
      try simp only [Act.put, List.getElem_toArray, List.getElem_cons_succ, List.getElem_cons_zero, List.setIfInBounds_toArray, List.set_cons_zero, List.set_cons_succ]
      refine wpAnyH_take (i := 3) (oi := _) (v := .pointer (some ⟨w.heap.size, 1, none⟩)) rfl (by kernel_rfl) (by kernel_rfl) (by kernel_rfl) (fun _ _ _ h => h) (Or.inl ⟨by rfl, ?_⟩) hHeld ?_
      · intro wq hSw
        try dsimp only at hSw
        go_simp
      try simp only [Act.put, List.getElem_toArray, List.getElem_cons_succ, List.getElem_cons_zero, List.setIfInBounds_toArray, List.set_cons_zero, List.set_cons_succ]
      refine wpAnyH_take (i := 4) (oi := _) (v := .slice (some ⟨gA, off, none⟩) n e1) rfl (by kernel_rfl) (by kernel_rfl) (by kernel_rfl) (fun _ _ _ h => h) (Or.inl ⟨by rfl, ?_⟩) hHeld ?_
      · intro wq hSw
        try dsimp only at hSw
        go_simp
      try simp only [Act.put, List.getElem_toArray, List.getElem_cons_succ, List.getElem_cons_zero, List.setIfInBounds_toArray, List.set_cons_zero, List.set_cons_succ]
      refine wpAnyH_take (i := 5) (oi := _) (v := .int .i64 (j : Int)) rfl (by kernel_rfl) (by kernel_rfl) (by kernel_rfl) (fun _ _ _ h => h) (Or.inl ⟨by rfl, ?_⟩) hHeld ?_
      · intro wq hSw
        try dsimp only at hSw
        go_simp
      try simp only [Act.put, List.getElem_toArray, List.getElem_cons_succ, List.getElem_cons_zero, List.setIfInBounds_toArray, List.set_cons_zero, List.set_cons_succ]
      refine wpAnyH_take (i := 6) (oi := _) (v := .pointer (some ⟨gA, off + j * 3, none⟩)) rfl (by kernel_rfl) (by kernel_rfl) (by kernel_rfl) (fun _ _ _ h => h) (Or.inl ⟨by rfl, ?_⟩) hHeld ?_
      · intro wq hSw
        try dsimp only at hSw
        go_simp
      try simp only [Act.put, List.getElem_toArray, List.getElem_cons_succ, List.getElem_cons_zero, List.setIfInBounds_toArray, List.set_cons_zero, List.set_cons_succ]
      refine wpAnyH_take (i := 7) (oi := _) (v := .agg #[.bool s0, .slice b z0.length kk, .int .i64 y0]) rfl (by kernel_rfl) (by kernel_rfl) (by kernel_rfl) (fun _ _ _ h => h) (Or.inl ⟨by rfl, ?_⟩) hHeld ?_
      · intro wq hSw
        try dsimp only at hSw
        go_simp
      try simp only [Act.put, List.getElem_toArray, List.getElem_cons_succ, List.getElem_cons_zero, List.setIfInBounds_toArray, List.set_cons_zero, List.set_cons_succ]
      refine wpAnyH_take (i := 8) (oi := _) (v := .agg #[.bool sn, .slice an zn.length cn, .int .i64 yx]) rfl (by kernel_rfl) (by kernel_rfl) (by kernel_rfl) (fun _ _ _ h => h) (Or.inl ⟨by rfl, ?_⟩) hHeld ?_
      · intro wq hSw
        try dsimp only at hSw
        go_simp
      try simp only [Act.put, List.getElem_toArray, List.getElem_cons_succ, List.getElem_cons_zero, List.setIfInBounds_toArray, List.set_cons_zero, List.set_cons_succ]
      refine wpAnyH_ready (rs := [9]) (by kernel_rfl) (by simp) ?_
      refine AllReadyH.cons rfl (fun KK hK => ?_) AllReadyH.nil
      simp only [List.getElem_toArray, List.getElem_cons_succ, List.getElem_cons_zero]
      rw [if_pos (by rfl)]
      refine wps2 50 (.tmp 35) (.tmp 36) _ rfl in_l4add (.agg #[.bool s0, .slice b z0.length kk, .int .i64 y0]) (.agg #[.bool sn, .slice an zn.length cn, .int .i64 yx]) rfl rfl hml ?_
      rintro e w3 ⟨v3, rfl, r3, k3⟩
      refine ⟨_, rfl, ?_⟩
      obtain ⟨a3, d3, hv3⟩ := Row.form' r3
      subst hv3
      replace O1 := k3.cell0 O1
      replace A1 := k3.cell0 A1
      replace c0 := k3.cell0 c0
      replace c1 := k3.cell0 c1
      replace c2 := k3.cell0 c2
      replace X0 := k3.cell0 X0
      replace X1 := k3.cell0 X1
      replace X2 := k3.cell0 X2
      have F4 := hide ((unhide FD).step hlt k3 r3 (unhide HE))
      have hFl := (unhide FD).lt
      obtain ⟨m0, hm0⟩ := (unhide FD).cell (j * 3) (by omega)
      obtain ⟨m1, hm1⟩ := (unhide FD).cell (j * 3 + 1) (by omega)
      obtain ⟨m2, hm2⟩ := (unhide FD).cell (j * 3 + 2) (by omega)
      have fg0 := k3.loose0 (a := ⟨g, j * 3, none⟩) hFl ((unhide FD).loose (j * 3) (by omega))
      have fg1 := k3.loose0 (a := ⟨g, j * 3 + 1, none⟩) hFl ((unhide FD).loose (j * 3 + 1) (by omega))
      have fg2 := k3.loose0 (a := ⟨g, j * 3 + 2, none⟩) hFl ((unhide FD).loose (j * 3 + 2) (by omega))
      replace hm0 := k3.cell0 hm0
      replace hm1 := k3.cell0 hm1
      replace hm2 := k3.cell0 hm2
      have K4 := hide ((unhide KD).trans k3)
      have KG4 := hide ((unhide KGD).trans k3.any)
      clear hml r3 k3 FD KD KGD hFl
      clear hHeld
      refine hK.out _ _ ?_ (fun hHeld => ?_)
      · exact ⟨O1, A1, c0, c1, c2, X0, X1, X2⟩
      clear hK KK
      try simp only [Act.put, List.getElem_toArray, List.getElem_cons_succ, List.getElem_cons_zero, List.setIfInBounds_toArray, List.set_cons_zero, List.set_cons_succ]
      refine wpAnyH_take (i := 10) (oi := _) (v := .pointer (some ⟨g, j * 3, none⟩)) rfl (by kernel_rfl) (by kernel_rfl) (by kernel_rfl) (fun _ _ _ h => h) (Or.inl ⟨by rfl, ?_⟩) hHeld ?_
      · intro wq hSw
        try dsimp only at hSw
        go_simp
      try simp only [Act.put, List.getElem_toArray, List.getElem_cons_succ, List.getElem_cons_zero, List.setIfInBounds_toArray, List.set_cons_zero, List.set_cons_succ]
      refine wpAnyH_ready (rs := [11]) (by kernel_rfl) (by simp) ?_
      refine AllReadyH.cons rfl (fun KK hK => ?_) AllReadyH.nil
      simp only [List.getElem_toArray, List.getElem_cons_succ, List.getElem_cons_zero]
      rw [if_pos (by rfl)]
      go_simp
      clear hHeld
      refine hK.out _ _ ?_ (fun hHeld => ?_)
      · exact ⟨(cell_aside _ (by dsimp only; omega) (cell_aside _ (by dsimp only; omega) (cell_aside _ (by dsimp only; omega) O1))), (cell_aside _ (by dsimp only; omega) (cell_aside _ (by dsimp only; omega) (cell_aside _ (by dsimp only; omega) A1))), (cell_aside _ (by dsimp only; omega) (cell_aside _ (by dsimp only; omega) (cell_aside _ (by dsimp only; omega) c0))), (cell_aside _ (by dsimp only; omega) (cell_aside _ (by dsimp only; omega) (cell_aside _ (by dsimp only; omega) c1))), (cell_aside _ (by dsimp only; omega) (cell_aside _ (by dsimp only; omega) (cell_aside _ (by dsimp only; omega) c2))), (cell_aside _ (by dsimp only; omega) (cell_aside _ (by dsimp only; omega) (cell_aside _ (by dsimp only; omega) X0))), (cell_aside _ (by dsimp only; omega) (cell_aside _ (by dsimp only; omega) (cell_aside _ (by dsimp only; omega) X1))), (cell_aside _ (by dsimp only; omega) (cell_aside _ (by dsimp only; omega) (cell_aside _ (by dsimp only; omega) X2)))⟩
      clear hK KK
      try simp only [Act.put, List.getElem_toArray, List.getElem_cons_succ, List.getElem_cons_zero, List.setIfInBounds_toArray, List.set_cons_zero, List.set_cons_succ]
      refine wpAnyH_done (by kernel_rfl) ?_ _
      clear hHeld
      have ks : Kept g (g + 1) w3 (((w3.setCell ⟨g, j * 3, none⟩ (.bool s1)).setCell ⟨g, j * 3 + 1, none⟩ (.slice a3 z1.length d3)).setCell ⟨g, j * 3 + 2, none⟩ (.int .i64 y1)) := (((Kept.refl _ _ _).setCell (p := ⟨g, j * 3, none⟩) (Nat.le_refl _) (Nat.lt_succ_self _) _).setCell (p := ⟨g, j * 3 + 1, none⟩) (Nat.le_refl _) (Nat.lt_succ_self _) _).setCell (p := ⟨g, j * 3 + 2, none⟩) (Nat.le_refl _) (Nat.lt_succ_self _) _
      have K5 := hide ((unhide K4).wide ks (by omega))
      have KG5 := hide ((unhide KG4).trans ks)
      clear ks K4 KG4 O1 A1 c0 c1 c2 X0 X1 X2 hm0 hm1 hm2 fg0 fg1 fg2 hgA hgB b0 b1 b2 B1 C1
      go_wp2
      go_roundw
      case rel => exact ⟨j + 1, by simp, hlt, F4, K5, KG5⟩
      case measure => simp [intOf]; omega
    · have hjn : j = n := by omega
      subst hjn
      have D := (unhide hF).done (unhide HPN) (by unfold maxLen; omega)
      have Q0 := (unhide kg).cellOut (a := ⟨w.heap.size + 1 + 1, 0, none⟩) (by dsimp only; omega) q0'
      have Q1 := (unhide kg).cellOut (a := ⟨w.heap.size + 1 + 1, 1, none⟩) (by dsimp only; omega) q1'
      have Qf0 := (unhide kg).looseOut (a := ⟨w.heap.size + 1 + 1, 0, none⟩) (by dsimp only; omega) (World.block_lt_of_cell? _ _ q0') f0'
      have Qf1 := (unhide kg).looseOut (a := ⟨w.heap.size + 1 + 1, 1, none⟩) (by dsimp only; omega) (World.block_lt_of_cell? _ _ q1') f1'
      have O0 := (unhide kg).cellOut (a := ⟨O, 0, none⟩) (by dsimp only; omega) o0
      have O1 := (unhide kg).cellOut (a := ⟨O, 1, none⟩) (by dsimp only; omega) o1
      have ks : Kept (w.heap.size + 1 + 1) (w.heap.size + 1 + 1 + 1) wr ((wr.setCell ⟨w.heap.size + 1 + 1, 0, none⟩ (.int .i64 (k : Int))).setCell ⟨w.heap.size + 1 + 1, 1, none⟩ (.slice (some ⟨g, 0, none⟩) j j)) :=
        ((Kept.refl _ _ _).setCell (p := ⟨w.heap.size + 1 + 1, 0, none⟩) (Nat.le_refl _) (Nat.lt_succ_self _) _).setCell (p := ⟨w.heap.size + 1 + 1, 1, none⟩) (Nat.le_refl _) (Nat.lt_succ_self _) _
      have hsz : ((wr.setCell ⟨w.heap.size + 1 + 1, 0, none⟩ (.int .i64 (k : Int))).setCell ⟨w.heap.size + 1 + 1, 1, none⟩ (.slice (some ⟨g, 0, none⟩) j j)).heap.size = wr.heap.size := by rw [size_set, size_set]
      have DD := hide ((D.kept ks (by omega)).wider (lo' := w.heap.size) (hi' := ((wr.setCell ⟨w.heap.size + 1 + 1, 0, none⟩ (.int .i64 (k : Int))).setCell ⟨w.heap.size + 1 + 1, 1, none⟩ (.slice (some ⟨g, 0, none⟩) j j)).heap.size) (by omega) (by omega))
      have K7 := hide ((unhide kw).wide ks (by omega))
      have G0 := cell_off _ _ _ 1 (.slice (some ⟨g, 0, none⟩) j j) _ (cell_on _ _ _ (.int .i64 (k : Int)) _ Q0) (show (0 : Nat) ≠ 1 by omega)
      have G1 := cell_on _ _ _ (.slice (some ⟨g, 0, none⟩) j j) _ (cell_off _ _ _ 0 (.int .i64 (k : Int)) _ Q1 (show (1 : Nat) ≠ 0 by omega))
      clear hF kw kg D ks hsz hgw hgo
      go_wp2
      exact bodyPost_ret (v := .agg #[.int .i64 (k : Int), .slice (some ⟨g, 0, none⟩) j j]) (by simp [results, Tryz.results39, go_sem, G0, G1]) rfl ⟨.slice (some ⟨g, 0, none⟩) j j, rfl, unhide DD, unhide K7⟩

end Go.Proofs.YtagaofpkfpfilaaGreatDoor
