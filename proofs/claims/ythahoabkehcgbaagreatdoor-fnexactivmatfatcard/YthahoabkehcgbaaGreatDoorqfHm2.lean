/-
  IvMatFat of the model.
-/
import Derived.Test.YthahoabkehcgbaaGreatDoorqfWid2
import Derived.Deep.DeepCutAuto
import Derived.Deep.RegionHeld3
namespace Go.Proofs.YthahoabkehcgbaaGreatDoor
open Go.RowKit
set_option linter.unusedVariables false
set_option maxRecDepth 8000
set_option linter.unusedSimpArgs false

/-- The ends, b apart, in units of 2 to the power -3000. -/
def fatV (b : Int) (ds : List DE) (q : Nat) : Int := if q % 2 = 0 then dv (-3000) (ds.getD q de0) + -b else dv (-3000) (ds.getD q de0) + b
theorem fatV_lo (b : Int) (ds : List DE) (p : Nat) : fatV b ds (2 * p) = dv (-3000) (ds.getD (2 * p) de0) + -b := by unfold fatV; rw [if_pos (by omega)]
theorem fatV_hi (b : Int) (ds : List DE) (p : Nat) : fatV b ds (2 * p + 1) = dv (-3000) (ds.getD (2 * p + 1) de0) + b := by unfold fatV; rw [if_neg (by omega)]
theorem fatV_lt {b : Int} {ds : List DE} {q A : Nat} (h : dOkE (ds.getD q de0) = true) (hA : A = 7600) (hb : b.natAbs < 2 ^ A) : (fatV b ds q).natAbs < 2 ^ AA := by
  unfold fatV
  split
  · exact lt_up (add_lt (dv_lt h hA) (by rw [Int.natAbs_neg]; exact hb)) (by unfold AA; omega)
  · exact lt_up (add_lt (dv_lt h hA) hb) (by unfold AA; omega)

set_option maxHeartbeats 16000000 in
theorem fat8_spec {bb : Bool} {k m lo hi lob hib : Nat} {v ub : Value} {ds : List DE} {sb : Bool} {zb : List Int} {yb : Int} (w : World) (hk4 : k ≤ 4) (hmk : m = k * k) (U : ∀ q, q < 2 * m → dOkE (ds.getD q de0) = true) (r : Ivs lo hi w v ds m) (hb : dOkE (sb, zb, yb) = true) (rb : Row .i64 bb lob hib w ub zb) :
    Calls Tryz.prog 61 #[.agg #[.int .i64 (k : Int), v], .agg #[.bool sb, ub, .int .i64 yb]] w fun e w' => ∃ v', e = .returned (.agg #[.int .i64 (k : Int), v']) ∧ IvsO w.heap.size w'.heap.size w' v' ((List.range (2 * m)).map fun q => nE (fatV (dv (-3000) (sb, zb, yb)) ds q) (-3000)) m ∧ Kept 0 0 w w' := by
  obtain ⟨a, c, rfl, -, -⟩ := r.form
  obtain ⟨ab, cb, hv⟩ := Row.form' rb
  subst hv
  obtain ⟨W, hW⟩ : ∃ W, W = ((w.alloc (.cells #[.int .i64 (k : Int), .slice a m c] 28)).alloc (.cells #[.bool sb, .slice ab zb.length cb, .int .i64 yb] 52)).alloc (.cells #[.int .i64 0, .slice none 0 0] 28) := ⟨_, rfl⟩
  have k0 : Kept 0 0 w W := by rw [hW]; exact (((Kept.refl 0 0 w).alloc _).alloc _).alloc _
  have c0 : W.cell? ⟨w.heap.size, 0, none⟩ = some (.int .i64 (k : Int)) := by rw [hW]; exact old_cell _ (old_cell _ (new_cell2 _ _ _ _ _ _ (by simp) rfl))
  have c1 : W.cell? ⟨w.heap.size, 1, none⟩ = some (.slice a m c) := by rw [hW]; exact old_cell _ (old_cell _ (new_cell2 _ _ _ _ _ _ (by simp) rfl))
  have b0 : W.cell? ⟨w.heap.size + 1, 0, none⟩ = some (.bool sb) := by rw [hW]; exact old_cell _ (new_cell2 _ _ _ _ _ _ (by simp) rfl)
  have b1 : W.cell? ⟨w.heap.size + 1, 1, none⟩ = some (.slice ab zb.length cb) := by rw [hW]; exact old_cell _ (new_cell2 _ _ _ _ _ _ (by simp) rfl)
  have b2 : W.cell? ⟨w.heap.size + 1, 2, none⟩ = some (.int .i64 yb) := by rw [hW]; exact old_cell _ (new_cell2 _ _ _ _ _ _ (by simp) rfl)
  have q0 : W.cell? ⟨w.heap.size + 2, 0, none⟩ = some (.int .i64 0) := by rw [hW]; exact new_cell2 _ _ _ _ _ _ (by simp) rfl
  have q1 : W.cell? ⟨w.heap.size + 2, 1, none⟩ = some (.slice none 0 0) := by rw [hW]; exact new_cell2 _ _ _ _ _ _ (by simp) rfl
  have f0 : W.frozen? ⟨w.heap.size + 2, 0, none⟩ = false := by rw [hW]; exact new_loose2 _ _ _ _ _ (by simp)
  have f1 : W.frozen? ⟨w.heap.size + 2, 1, none⟩ = false := by rw [hW]; exact new_loose2 _ _ _ _ _ (by simp)
  have sW : W.heap.size = w.heap.size + 3 := by rw [hW]; simp
  obtain ⟨bv, hbv⟩ : ∃ q, q = dv (-3000) (sb, zb, yb) := ⟨_, rfl⟩
  obtain ⟨PL, hPL⟩ : ∃ PL, PL = (List.range (2 * m)).map fun q => nE (fatV bv ds q) (-3000) := ⟨_, rfl⟩
  rw [← hbv, ← hPL]
  have h16 : m ≤ 4 * 4 := by rw [hmk]; exact Nat.mul_le_mul hk4 hk4
  have hn10 := new10_spec hk4 W PL
  rw [← hmk] at hn10
  have ivb := (dok_nv hb (Int.le_refl (-3000))).1
  rw [← hbv] at ivb
  have ivn := neg_nv ivb
  have HIVB := hide ivb
  have HIVN := hide ivn
  obtain ⟨lvb, nrb, lyb0, lyb1⟩ := dok_len (show dokB sb zb yb = true from hb)
  have WBN : Hid (WB (wsg (-wval sb zb)) (wlm (-wval sb zb)) yb) := ⟨wn_int _, Nat.le_trans (wlm_len (n := 100) (by rw [Int.natAbs_neg]; exact wval_lt ivb.2.1.1) (by omega)) (by decide), by omega, by omega⟩
  have HOKB := hide hb
  have HPLN : Hid (PL.length = 2 * m) := by show _ = _; rw [hPL]; simp
  have HPL := hide hPL
  have HNRB := hide (And.intro nrb lvb)
  have HYB := hide (And.intro lyb0 lyb1)
  obtain ⟨sn, hsn⟩ : ∃ q, wsg (-wval sb zb) = q := ⟨_, rfl⟩
  obtain ⟨zn, hzn⟩ : ∃ q, wlm (-wval sb zb) = q := ⟨_, rfl⟩
  have HSN := hide hsn
  have HZN := hide hzn
  have RW := hide r
  have RB := hide rb
  have HU := hide U
  have SW := hide sW
  have K1 := hide k0
  rw [hW] at hn10
  clear r rb hmk U hb ivb ivn lvb nrb lyb0 lyb1 hPL hbv hsn hzn sW k0
  go_enter Tryz.func61, Tryz.ntmps61
  go_wp2_with fail
  refine hn10.mono ?_
  rw [← hW]
  rintro e w2 ⟨g, rfl, F0, hg, k2⟩
  clear hn10 hW
  obtain ⟨O, hO⟩ : ∃ O, O = w2.heap.size := ⟨_, rfl⟩
  have o0 : (w2.alloc (.cells #[.int .i64 (k : Int), .slice (some ⟨g, 0, none⟩) m m] 28)).cell? ⟨O, 0, none⟩ = some (.int .i64 (k : Int)) := new_cell2 _ _ _ _ _ _ hO rfl
  have o1 : (w2.alloc (.cells #[.int .i64 (k : Int), .slice (some ⟨g, 0, none⟩) m m] 28)).cell? ⟨O, 1, none⟩ = some (.slice (some ⟨g, 0, none⟩) m m) := new_cell2 _ _ _ _ _ _ hO rfl
  have k3 := (Kept.refl 0 0 w2).alloc (.cells #[.int .i64 (k : Int), .slice (some ⟨g, 0, none⟩) m m] 28)
  have hgO : g < O := by have := F0.lt; omega
  have kk := k2.trans k3
  have c1' := kk.cell0 c1
  have b0' := kk.cell0 b0
  have b1' := kk.cell0 b1
  have b2' := kk.cell0 b2
  have q0' := kk.cell0 q0
  have q1' := kk.cell0 q1
  have f0' := kk.loose0 (World.block_lt_of_cell? _ _ q0) f0
  have f1' := kk.loose0 (World.block_lt_of_cell? _ _ q1) f1
  have F1 := hide (F0.kept k3)
  have K2 := hide ((unhide K1).trans kk)
  have HGW : Hid (w.heap.size + 3 ≤ g) := by show _ ≤ _; have := unhide SW; omega
  have HGO := hide hgO
  clear F0 k2 k3 kk c0 c1 b0 b1 b2 q0 q1 f0 f1 hg hgO K1
  go_wp2_with fail
  rw [← hO]
  generalize (w2.alloc (.cells #[.int .i64 (k : Int), .slice (some ⟨g, 0, none⟩) m m] 28)) = w3 at *
  clear hO
  go_loopw [6] (fun s6 wr => ∃ j : Nat, s6 = .int .i64 j ∧ j ≤ m ∧ Hid (Fill 0 g (2 * m) PL (2 * j) wr) ∧ Hid (Kept 0 0 w wr) ∧ Hid (Kept g (g + 1) w3 wr)) (fun s6 _ => m - (intOf s6).toNat)
  case atStart => exact ⟨0, rfl, Nat.zero_le _, F1, K2, Kept.refl _ _ _⟩
  case round =>
    clear F1 K2
    obtain ⟨j, rfl, hj, hF, kw, kg⟩ := hrel
    have hwj : IntKind.i64.wrap ((j : Int) + 1) = ((j + 1 : Nat) : Int) := by rw [IntKind.wrap_i64]; omega
    have hgw := unhide HGW
    have hgo := unhide HGO
    have C1 := (unhide kg).cellOut (a := ⟨w.heap.size, 1, none⟩) (by dsimp only; omega) c1'
    by_cases hlt : j < m
    · have kgd := (unhide kg).drew
      have kd := (unhide kw).drew
      have O1 := kgd.cellOut (a := ⟨O, 1, none⟩) (by dsimp only; omega) o1
      have A1 := kgd.cellOut (a := ⟨w.heap.size, 1, none⟩) (by dsimp only; omega) c1'
      have e0 := kgd.cellOut (a := ⟨w.heap.size + 1, 0, none⟩) (by dsimp only; omega) b0'
      have e1 := kgd.cellOut (a := ⟨w.heap.size + 1, 1, none⟩) (by dsimp only; omega) b1'
      have e2 := kgd.cellOut (a := ⟨w.heap.size + 1, 2, none⟩) (by dsimp only; omega) b2'
      obtain ⟨gA, off, l0, l1, rfl, -, -, hgA, b, kb, b', kb', m0, m1, m2, m3, m4, m5, hln0, hln1, rr0, rr1⟩ := (unhide RW).at (i := j) hlt
      have hk0 := unhide HU (2 * j) (by omega)
      have hk1 := unhide HU (2 * j + 1) (by omega)
      have HP0 : PL.getD (2 * j) de0 = nE (fatV bv ds (2 * j)) (-3000) := by rw [unhide HPL, map_at _ _ _ (by omega)]
      have HP1 : PL.getD (2 * j + 1) de0 = nE (fatV bv ds (2 * j + 1)) (-3000) := by rw [unhide HPL, map_at _ _ _ (by omega)]
      rw [fatV_lo] at HP0
      rw [fatV_hi] at HP1
      obtain ⟨⟨s0, z0, y0⟩, hE0⟩ : ∃ q, q = ds.getD (2 * j) de0 := ⟨_, rfl⟩
      obtain ⟨⟨s1, z1, y1⟩, hE1⟩ : ∃ q, q = ds.getD (2 * j + 1) de0 := ⟨_, rfl⟩
      rw [← hE0] at m0 m2 hln0 rr0 hk0 HP0
      rw [← hE1] at m3 m5 hln1 rr1 hk1 HP1
      dsimp only at m0 m2 hln0 rr0 m3 m5 hln1 rr1
      have iv0 := (dok_nv hk0 (Int.le_refl (-3000))).1
      have iv1 := (dok_nv hk1 (Int.le_refl (-3000))).1
      obtain ⟨⟨t0, x0, p0⟩, hR0⟩ : ∃ q, q = nE (dv (-3000) (s0, z0, y0) + -bv) (-3000) := ⟨_, rfl⟩
      obtain ⟨⟨t1, x1, p1⟩, hR1⟩ : ∃ q, q = nE (dv (-3000) (s1, z1, y1) + bv) (-3000) := ⟨_, rfl⟩
      rw [← hR0] at HP0
      rw [← hR1] at HP1
      have ivn := unhide HIVN
      rw [unhide HSN, unhide HZN] at ivn
      have hR0' : (t0, x0, p0) = (wsg (wval s0 z0 * 2 ^ (y0 - min y0 yb).toNat + wval sn zn * 2 ^ (yb - min y0 yb).toNat), dlm (wval s0 z0 * 2 ^ (y0 - min y0 yb).toNat + wval sn zn * 2 ^ (yb - min y0 yb).toNat), dex (wval s0 z0 * 2 ^ (y0 - min y0 yb).toNat + wval sn zn * 2 ^ (yb - min y0 yb).toNat) (min y0 yb)) := by
        rw [hR0, ← sum_nE iv0 ivn]
        rfl
      have hR1' : (t1, x1, p1) = (wsg (wval s1 z1 * 2 ^ (y1 - min y1 yb).toNat + wval sb zb * 2 ^ (yb - min y1 yb).toNat), dlm (wval s1 z1 * 2 ^ (y1 - min y1 yb).toNat + wval sb zb * 2 ^ (yb - min y1 yb).toNat), dex (wval s1 z1 * 2 ^ (y1 - min y1 yb).toNat + wval sb zb * 2 ^ (yb - min y1 yb).toNat) (min y1 yb)) := by
        rw [hR1, ← sum_nE iv1 (unhide HIVB)]
        rfl
      simp only [Prod.mk.injEq] at hR0' hR1'
      have HNG : Hid (∀ w' : World, Kept 0 0 w w' → Calls Tryz.prog 125 #[.agg #[.bool sb, .slice ab zb.length cb, .int .i64 yb]] w' fun e w'' => ∃ v', e = .returned (.agg #[.bool sn, v', .int .i64 yb]) ∧ Row .i64 true w'.heap.size w''.heap.size w'' v' zn ∧ Kept 0 0 w' w'') := fun w' kw' => by
        have := neg4_spec sb yb w' ((unhide RB).kept kw' (by omega)) (unhide HNRB).1 (by have := (unhide HNRB).2; omega)
        rw [unhide HSN, unhide HZN] at this
        exact this
      have HAD0 : Hid (∀ (w' : World) vm lom, Kept 0 0 w w' → Row .i64 true lom w'.heap.size w' vm zn → Calls Tryz.prog 124 #[.agg #[.bool s0, .slice b l0 kb, .int .i64 y0], .agg #[.bool sn, vm, .int .i64 yb]] w' fun e w'' => ∃ v', e = .returned (.agg #[.bool t0, v', .int .i64 p0]) ∧ Row .i64 true w'.heap.size w''.heap.size w'' v' x0 ∧ Kept 0 0 w' w'') := fun w' vm lom kw' rm => by
        have hwb := unhide WBN
        rw [unhide HSN, unhide HZN] at hwb
        have := add4_wide s0 sn y0 yb w' (rr0.kept kw' (by omega)) rm (dok_wb hk0) hwb
        rw [← hR0'.1, ← hR0'.2.1, ← hR0'.2.2] at this
        exact this
      have HAD1 : Hid (∀ w' : World, Kept 0 0 w w' → Calls Tryz.prog 124 #[.agg #[.bool s1, .slice b' l1 kb', .int .i64 y1], .agg #[.bool sb, .slice ab zb.length cb, .int .i64 yb]] w' fun e w'' => ∃ v', e = .returned (.agg #[.bool t1, v', .int .i64 p1]) ∧ Row .i64 true w'.heap.size w''.heap.size w'' v' x1 ∧ Kept 0 0 w' w'') := fun w' kw' => by
        have := add4_wide s1 sb y1 yb w' (rr1.kept kw' (by omega)) ((unhide RB).kept kw' (by omega)) (dok_wb hk1) (dok_wb (unhide HOKB))
        rw [← hR1'.1, ← hR1'.2.1, ← hR1'.2.2] at this
        exact this
      replace m0 := kd.cell0 m0
      replace m1 := kd.cell0 m1
      replace m2 := kd.cell0 m2
      replace m3 := kd.cell0 m3
      replace m4 := kd.cell0 m4
      replace m5 := kd.cell0 m5
      have HF := hide ((unhide hF).kept ((Kept.refl 0 0 wr).drew))
      have E0 := hide HP0
      have E1 := hide HP1
      have KD := hide kd
      have KGD := hide kgd
      clear hln0 hln1 rr0 rr1 hE0 hE1 kd kgd hF kw kg HP0 HP1 hk0 hk1 iv0 iv1 ivn hR0 hR1 hR0' hR1'
      go_wp2_with fail
      refine wp_region_held_drew (S := (fun w' => w'.cell? ⟨O, 1, none⟩ = some (.slice (some ⟨g, 0, none⟩) m m) ∧ w'.cell? ⟨w.heap.size, 1, none⟩ = some (.slice (some ⟨gA, off, none⟩) m c) ∧ w'.cell? ⟨w.heap.size + 1, 0, none⟩ = some (.bool sb) ∧ w'.cell? ⟨w.heap.size + 1, 1, none⟩ = some (.slice ab zb.length cb) ∧ w'.cell? ⟨w.heap.size + 1, 2, none⟩ = some (.int .i64 yb) ∧ w'.cell? ⟨gA, off + j * 6, none⟩ = some (.bool s0) ∧ w'.cell? ⟨gA, off + j * 6 + 1, none⟩ = some (.slice b l0 kb) ∧ w'.cell? ⟨gA, off + j * 6 + 2, none⟩ = some (.int .i64 y0) ∧ w'.cell? ⟨gA, off + j * 6 + 3, none⟩ = some (.bool s1) ∧ w'.cell? ⟨gA, off + j * 6 + 4, none⟩ = some (.slice b' l1 kb') ∧ w'.cell? ⟨gA, off + j * 6 + 5, none⟩ = some (.int .i64 y1))) (by kernel_rfl) ?_ (fun hHeld => ?_)
      · exact ⟨O1, A1, e0, e1, e2, m0, m1, m2, m3, m4, m5⟩
      have KX := KD
      generalize wr.drew = wd at *
      refine wpAnyH_take (i := 0) (oi := _) (v := .pointer (some ⟨O, 1, none⟩)) rfl (by kernel_rfl) (by kernel_rfl) (by kernel_rfl) (fun _ _ _ h => h) (Or.inl ⟨by rfl, ?_⟩) hHeld ?_
      · intro wq hSw
        try dsimp only at hSw
        go_simp
      try simp only [Act.put, List.getElem_toArray, List.getElem_cons_succ, List.getElem_cons_zero, List.setIfInBounds_toArray, List.set_cons_zero, List.set_cons_succ]
      refine wpAnyH_take (i := 1) (oi := _) (v := .slice (some ⟨g, 0, none⟩) m m) rfl (by kernel_rfl) (by kernel_rfl) (by kernel_rfl) (fun _ _ _ h => h) (Or.inl ⟨by rfl, ?_⟩) hHeld ?_
      · intro wq hSw
        try dsimp only at hSw
        go_simp
      try simp only [Act.put, List.getElem_toArray, List.getElem_cons_succ, List.getElem_cons_zero, List.setIfInBounds_toArray, List.set_cons_zero, List.set_cons_succ]
      refine wpAnyH_take (i := 2) (oi := _) (v := .int .i64 (j : Int)) rfl (by kernel_rfl) (by kernel_rfl) (by kernel_rfl) (fun _ _ _ h => h) (Or.inl ⟨by rfl, ?_⟩) hHeld ?_
      · intro wq hSw
        try dsimp only at hSw
        go_simp
      try simp only [Act.put, List.getElem_toArray, List.getElem_cons_succ, List.getElem_cons_zero, List.setIfInBounds_toArray, List.set_cons_zero, List.set_cons_succ]
      refine wpAnyH_take (i := 3) (oi := _) (v := .pointer (some ⟨w.heap.size, 1, none⟩)) rfl (by kernel_rfl) (by kernel_rfl) (by kernel_rfl) (fun _ _ _ h => h) (Or.inl ⟨by rfl, ?_⟩) hHeld ?_
      · intro wq hSw
        try dsimp only at hSw
        go_simp
      try simp only [Act.put, List.getElem_toArray, List.getElem_cons_succ, List.getElem_cons_zero, List.setIfInBounds_toArray, List.set_cons_zero, List.set_cons_succ]
      refine wpAnyH_take (i := 4) (oi := _) (v := .slice (some ⟨gA, off, none⟩) m c) rfl (by kernel_rfl) (by kernel_rfl) (by kernel_rfl) (fun _ _ _ h => h) (Or.inl ⟨by rfl, ?_⟩) hHeld ?_
      · intro wq hSw
        try dsimp only at hSw
        go_simp
      try simp only [Act.put, List.getElem_toArray, List.getElem_cons_succ, List.getElem_cons_zero, List.setIfInBounds_toArray, List.set_cons_zero, List.set_cons_succ]
      refine wpAnyH_take (i := 5) (oi := _) (v := .int .i64 (j : Int)) rfl (by kernel_rfl) (by kernel_rfl) (by kernel_rfl) (fun _ _ _ h => h) (Or.inl ⟨by rfl, ?_⟩) hHeld ?_
      · intro wq hSw
        try dsimp only at hSw
        go_simp
      try simp only [Act.put, List.getElem_toArray, List.getElem_cons_succ, List.getElem_cons_zero, List.setIfInBounds_toArray, List.set_cons_zero, List.set_cons_succ]
      refine wpAnyH_take (i := 6) (oi := _) (v := .pointer (some ⟨gA, off + j * 6, none⟩)) rfl (by kernel_rfl) (by kernel_rfl) (by kernel_rfl) (fun _ _ _ h => h) (Or.inl ⟨by rfl, ?_⟩) hHeld ?_
      · intro wq hSw
        try dsimp only at hSw
        go_simp
      try simp only [Act.put, List.getElem_toArray, List.getElem_cons_succ, List.getElem_cons_zero, List.setIfInBounds_toArray, List.set_cons_zero, List.set_cons_succ]
      refine wpAnyH_take (i := 7) (oi := _) (v := .pointer (some ⟨gA, off + j * 6, none⟩)) rfl (by kernel_rfl) (by kernel_rfl) (by kernel_rfl) (fun _ _ _ h => h) (Or.inl ⟨by rfl, ?_⟩) hHeld ?_
      · intro wq hSw
        try dsimp only at hSw
        go_simp
      try simp only [Act.put, List.getElem_toArray, List.getElem_cons_succ, List.getElem_cons_zero, List.setIfInBounds_toArray, List.set_cons_zero, List.set_cons_succ]
      refine wpAnyH_take (i := 8) (oi := _) (v := .agg #[.bool s0, .slice b l0 kb, .int .i64 y0]) rfl (by kernel_rfl) (by kernel_rfl) (by kernel_rfl) (fun _ _ _ h => h) (Or.inl ⟨by rfl, ?_⟩) hHeld ?_
      · intro wq hSw
        try dsimp only at hSw
        go_simp
      try simp only [Act.put, List.getElem_toArray, List.getElem_cons_succ, List.getElem_cons_zero, List.setIfInBounds_toArray, List.set_cons_zero, List.set_cons_succ]
      refine wpAnyH_take (i := 9) (oi := _) (v := .agg #[.bool sb, .slice ab zb.length cb, .int .i64 yb]) rfl (by kernel_rfl) (by kernel_rfl) (by kernel_rfl) (fun _ _ _ h => h) (Or.inl ⟨by rfl, ?_⟩) hHeld ?_
      · intro wq hSw
        try dsimp only at hSw
        go_simp
      try simp only [Act.put, List.getElem_toArray, List.getElem_cons_succ, List.getElem_cons_zero, List.setIfInBounds_toArray, List.set_cons_zero, List.set_cons_succ]
      refine wpAnyH_take (i := 12) (oi := _) (v := .pointer (some ⟨w.heap.size, 1, none⟩)) rfl (by kernel_rfl) (by kernel_rfl) (by kernel_rfl) (fun _ _ _ h => h) (Or.inl ⟨by rfl, ?_⟩) hHeld ?_
      · intro wq hSw
        try dsimp only at hSw
        go_simp
      try simp only [Act.put, List.getElem_toArray, List.getElem_cons_succ, List.getElem_cons_zero, List.setIfInBounds_toArray, List.set_cons_zero, List.set_cons_succ]
      refine wpAnyH_take (i := 13) (oi := _) (v := .slice (some ⟨gA, off, none⟩) m c) rfl (by kernel_rfl) (by kernel_rfl) (by kernel_rfl) (fun _ _ _ h => h) (Or.inl ⟨by rfl, ?_⟩) hHeld ?_
      · intro wq hSw
        try dsimp only at hSw
        go_simp
      try simp only [Act.put, List.getElem_toArray, List.getElem_cons_succ, List.getElem_cons_zero, List.setIfInBounds_toArray, List.set_cons_zero, List.set_cons_succ]
      refine wpAnyH_take (i := 14) (oi := _) (v := .int .i64 (j : Int)) rfl (by kernel_rfl) (by kernel_rfl) (by kernel_rfl) (fun _ _ _ h => h) (Or.inl ⟨by rfl, ?_⟩) hHeld ?_
      · intro wq hSw
        try dsimp only at hSw
        go_simp
      try simp only [Act.put, List.getElem_toArray, List.getElem_cons_succ, List.getElem_cons_zero, List.setIfInBounds_toArray, List.set_cons_zero, List.set_cons_succ]
      refine wpAnyH_take (i := 15) (oi := _) (v := .pointer (some ⟨gA, off + j * 6, none⟩)) rfl (by kernel_rfl) (by kernel_rfl) (by kernel_rfl) (fun _ _ _ h => h) (Or.inl ⟨by rfl, ?_⟩) hHeld ?_
      · intro wq hSw
        try dsimp only at hSw
        go_simp
      try simp only [Act.put, List.getElem_toArray, List.getElem_cons_succ, List.getElem_cons_zero, List.setIfInBounds_toArray, List.set_cons_zero, List.set_cons_succ]
      refine wpAnyH_take (i := 16) (oi := _) (v := .pointer (some ⟨gA, off + j * 6 + 3, none⟩)) rfl (by kernel_rfl) (by kernel_rfl) (by kernel_rfl) (fun _ _ _ h => h) (Or.inl ⟨by rfl, ?_⟩) hHeld ?_
      · intro wq hSw
        try dsimp only at hSw
        go_simp
      try simp only [Act.put, List.getElem_toArray, List.getElem_cons_succ, List.getElem_cons_zero, List.setIfInBounds_toArray, List.set_cons_zero, List.set_cons_succ]
      refine wpAnyH_take (i := 17) (oi := _) (v := .agg #[.bool s1, .slice b' l1 kb', .int .i64 y1]) rfl (by kernel_rfl) (by kernel_rfl) (by kernel_rfl) (fun _ _ _ h => h) (Or.inl ⟨by rfl, ?_⟩) hHeld ?_
      · intro wq hSw
        try dsimp only at hSw
        go_simp
      try simp only [Act.put, List.getElem_toArray, List.getElem_cons_succ, List.getElem_cons_zero, List.setIfInBounds_toArray, List.set_cons_zero, List.set_cons_succ]
      refine wpAnyH_take (i := 18) (oi := _) (v := .agg #[.bool sb, .slice ab zb.length cb, .int .i64 yb]) rfl (by kernel_rfl) (by kernel_rfl) (by kernel_rfl) (fun _ _ _ h => h) (Or.inl ⟨by rfl, ?_⟩) hHeld ?_
      · intro wq hSw
        try dsimp only at hSw
        go_simp
      try simp only [Act.put, List.getElem_toArray, List.getElem_cons_succ, List.getElem_cons_zero, List.setIfInBounds_toArray, List.set_cons_zero, List.set_cons_succ]
      refine wpAnyH_ready (rs := [10]) (by kernel_rfl) (by simp) ?_
      refine AllReadyH.cons rfl (fun KK hK => ?_) AllReadyH.nil
      simp only [List.getElem_toArray, List.getElem_cons_succ, List.getElem_cons_zero]
      rw [if_pos (by rfl)]
      refine wps1 125 (.tmp 26) _ rfl in_neg4w (.agg #[.bool sb, .slice ab zb.length cb, .int .i64 yb]) rfl (unhide HNG _ (unhide KX)) ?_
      rintro e w4 ⟨v4, rfl, r4, k4⟩
      refine ⟨_, rfl, ?_⟩
      obtain ⟨a4, c4, hv⟩ := Row.form' r4
      subst hv
      have R4 := hide r4
      replace KX := hide ((unhide KX).trans k4)
      have K4 := hide k4
      replace O1 := k4.cell0 O1
      replace A1 := k4.cell0 A1
      replace e0 := k4.cell0 e0
      replace e1 := k4.cell0 e1
      replace e2 := k4.cell0 e2
      replace m0 := k4.cell0 m0
      replace m1 := k4.cell0 m1
      replace m2 := k4.cell0 m2
      replace m3 := k4.cell0 m3
      replace m4 := k4.cell0 m4
      replace m5 := k4.cell0 m5
      clear r4 k4 HNG
      clear hHeld
      refine hK.out _ _ ?_ (fun hHeld => ?_)
      · exact ⟨O1, A1, e0, e1, e2, m0, m1, m2, m3, m4, m5⟩
      clear hK KK
      try simp only [Act.put, List.getElem_toArray, List.getElem_cons_succ, List.getElem_cons_zero, List.setIfInBounds_toArray, List.set_cons_zero, List.set_cons_succ]
      refine wpAnyH_ready (rs := [11]) (by kernel_rfl) (by simp) ?_
      refine AllReadyH.cons rfl (fun KK hK => ?_) AllReadyH.nil
      simp only [List.getElem_toArray, List.getElem_cons_succ, List.getElem_cons_zero]
      rw [if_pos (by rfl)]
      refine wps2 124 (.tmp 25) (.tmp 27) _ rfl in_l4add (.agg #[.bool s0, .slice b l0 kb, .int .i64 y0]) (.agg #[.bool sn, .slice a4 zn.length c4, .int .i64 yb]) rfl rfl (unhide HAD0 _ _ _ (unhide KX) (unhide R4)) ?_
      rintro e w5 ⟨v5, rfl, r5, k5⟩
      refine ⟨_, rfl, ?_⟩
      obtain ⟨a5, c5, hv⟩ := Row.form' r5
      subst hv
      have U0 := hide (r5.wider (lo' := wd.heap.size) (unhide K4).size (Nat.le_refl _))
      replace KX := hide ((unhide KX).trans k5)
      have K5 := hide ((unhide K4).trans k5)
      have Z4 := hide (unhide K5).size
      replace O1 := k5.cell0 O1
      replace A1 := k5.cell0 A1
      replace e0 := k5.cell0 e0
      replace e1 := k5.cell0 e1
      replace e2 := k5.cell0 e2
      replace m0 := k5.cell0 m0
      replace m1 := k5.cell0 m1
      replace m2 := k5.cell0 m2
      replace m3 := k5.cell0 m3
      replace m4 := k5.cell0 m4
      replace m5 := k5.cell0 m5
      clear r5 k5 HAD0 R4 K4
      clear hHeld
      refine hK.out _ _ ?_ (fun hHeld => ?_)
      · exact ⟨O1, A1, e0, e1, e2, m0, m1, m2, m3, m4, m5⟩
      clear hK KK
      try simp only [Act.put, List.getElem_toArray, List.getElem_cons_succ, List.getElem_cons_zero, List.setIfInBounds_toArray, List.set_cons_zero, List.set_cons_succ]
      refine wpAnyH_ready (rs := [19]) (by kernel_rfl) (by simp) ?_
      refine AllReadyH.cons rfl (fun KK hK => ?_) AllReadyH.nil
      simp only [List.getElem_toArray, List.getElem_cons_succ, List.getElem_cons_zero]
      rw [if_pos (by rfl)]
      refine wps2 124 (.tmp 34) (.tmp 35) _ rfl in_l4add (.agg #[.bool s1, .slice b' l1 kb', .int .i64 y1]) (.agg #[.bool sb, .slice ab zb.length cb, .int .i64 yb]) rfl rfl (unhide HAD1 _ (unhide KX)) ?_
      rintro e w6 ⟨v6, rfl, r6, k6⟩
      refine ⟨_, rfl, ?_⟩
      obtain ⟨a6, c6, hv⟩ := Row.form' r6
      subst hv
      replace U0 := hide ((unhide U0).kept k6 (.inr (.inr (Nat.le_refl 0))))
      have U1 := hide r6
      have K6 := hide ((unhide K5).trans k6)
      have Z5 := hide k6.size
      replace O1 := k6.cell0 O1
      replace A1 := k6.cell0 A1
      replace e0 := k6.cell0 e0
      replace e1 := k6.cell0 e1
      replace e2 := k6.cell0 e2
      replace m0 := k6.cell0 m0
      replace m1 := k6.cell0 m1
      replace m2 := k6.cell0 m2
      replace m3 := k6.cell0 m3
      replace m4 := k6.cell0 m4
      replace m5 := k6.cell0 m5
      clear r6 k6 HAD1 K5 KX
      clear hHeld
      refine hK.out _ _ ?_ (fun hHeld => ?_)
      · exact ⟨O1, A1, e0, e1, e2, m0, m1, m2, m3, m4, m5⟩
      clear hK KK
      try simp only [Act.put, List.getElem_toArray, List.getElem_cons_succ, List.getElem_cons_zero, List.setIfInBounds_toArray, List.set_cons_zero, List.set_cons_succ]
      refine wpAnyH_take (i := 20) (oi := _) (v := .agg #[.bool t0, .slice a5 x0.length c5, .int .i64 p0, .bool t1, .slice a6 x1.length c6, .int .i64 p1]) rfl (by kernel_rfl) (by kernel_rfl) (by kernel_rfl) (fun _ _ _ h => h) (Or.inl ⟨by rfl, ?_⟩) hHeld ?_
      · intro wq hSw
        try dsimp only at hSw
        go_simp
      try simp only [Act.put, List.getElem_toArray, List.getElem_cons_succ, List.getElem_cons_zero, List.setIfInBounds_toArray, List.set_cons_zero, List.set_cons_succ]
      refine wpAnyH_take (i := 21) (oi := _) (v := .pointer (some ⟨g, j * 6, none⟩)) rfl (by kernel_rfl) (by kernel_rfl) (by kernel_rfl) (fun _ _ _ h => h) (Or.inl ⟨by rfl, ?_⟩) hHeld ?_
      · intro wq hSw
        try dsimp only at hSw
        go_simp
      try simp only [Act.put, List.getElem_toArray, List.getElem_cons_succ, List.getElem_cons_zero, List.setIfInBounds_toArray, List.set_cons_zero, List.set_cons_succ]
      obtain ⟨u0, hx0⟩ := (unhide HF).cell (j * 6) (by omega)
      replace hx0 := (unhide K6).cell0 hx0
      have fg0 := (unhide K6).loose0 (a := ⟨g, j * 6, none⟩) (unhide HF).lt ((unhide HF).loose (j * 6) (by omega))
      obtain ⟨u1, hx1⟩ := (unhide HF).cell (j * 6 + 1) (by omega)
      replace hx1 := (unhide K6).cell0 hx1
      have fg1 := (unhide K6).loose0 (a := ⟨g, j * 6 + 1, none⟩) (unhide HF).lt ((unhide HF).loose (j * 6 + 1) (by omega))
      obtain ⟨u2, hx2⟩ := (unhide HF).cell (j * 6 + 2) (by omega)
      replace hx2 := (unhide K6).cell0 hx2
      have fg2 := (unhide K6).loose0 (a := ⟨g, j * 6 + 2, none⟩) (unhide HF).lt ((unhide HF).loose (j * 6 + 2) (by omega))
      obtain ⟨u3, hx3⟩ := (unhide HF).cell (j * 6 + 3) (by omega)
      replace hx3 := (unhide K6).cell0 hx3
      have fg3 := (unhide K6).loose0 (a := ⟨g, j * 6 + 3, none⟩) (unhide HF).lt ((unhide HF).loose (j * 6 + 3) (by omega))
      obtain ⟨u4, hx4⟩ := (unhide HF).cell (j * 6 + 4) (by omega)
      replace hx4 := (unhide K6).cell0 hx4
      have fg4 := (unhide K6).loose0 (a := ⟨g, j * 6 + 4, none⟩) (unhide HF).lt ((unhide HF).loose (j * 6 + 4) (by omega))
      obtain ⟨u5, hx5⟩ := (unhide HF).cell (j * 6 + 5) (by omega)
      replace hx5 := (unhide K6).cell0 hx5
      have fg5 := (unhide K6).loose0 (a := ⟨g, j * 6 + 5, none⟩) (unhide HF).lt ((unhide HF).loose (j * 6 + 5) (by omega))
      have F5 := hide ((unhide HF).two hlt (unhide K6) (unhide U0) (unhide U1) (unhide Z4) (unhide Z5) (unhide E0) (unhide E1))
      have KW5 := hide ((unhide KD).trans (unhide K6))
      have KG5 := hide ((unhide KGD).trans (unhide K6).any)
      clear HF U0 U1 Z4 Z5 E0 E1 K6 KD KGD
      refine wpAnyH_ready (rs := [22]) (by kernel_rfl) (by simp) ?_
      refine AllReadyH.cons rfl (fun KK hK => ?_) AllReadyH.nil
      simp only [List.getElem_toArray, List.getElem_cons_succ, List.getElem_cons_zero]
      rw [if_pos (by rfl)]
      go_simp
      have ks : Kept g (g + 1) w6 ((((((w6.setCell ⟨g, j * 6, none⟩ (.bool t0)).setCell ⟨g, j * 6 + 1, none⟩ (.slice a5 x0.length c5)).setCell ⟨g, j * 6 + 2, none⟩ (.int .i64 p0)).setCell ⟨g, j * 6 + 3, none⟩ (.bool t1)).setCell ⟨g, j * 6 + 4, none⟩ (.slice a6 x1.length c6)).setCell ⟨g, j * 6 + 5, none⟩ (.int .i64 p1)) := (((((((Kept.refl g (g + 1) w6).setCell (p := ⟨g, j * 6, none⟩) (Nat.le_refl _) (Nat.lt_succ_self _) (.bool t0)).setCell (p := ⟨g, j * 6 + 1, none⟩) (Nat.le_refl _) (Nat.lt_succ_self _) (.slice a5 x0.length c5)).setCell (p := ⟨g, j * 6 + 2, none⟩) (Nat.le_refl _) (Nat.lt_succ_self _) (.int .i64 p0)).setCell (p := ⟨g, j * 6 + 3, none⟩) (Nat.le_refl _) (Nat.lt_succ_self _) (.bool t1)).setCell (p := ⟨g, j * 6 + 4, none⟩) (Nat.le_refl _) (Nat.lt_succ_self _) (.slice a6 x1.length c6)).setCell (p := ⟨g, j * 6 + 5, none⟩) (Nat.le_refl _) (Nat.lt_succ_self _) (.int .i64 p1))
      replace O1 := ks.cellOut (by dsimp only; omega) O1
      replace A1 := ks.cellOut (by dsimp only; omega) A1
      replace e0 := ks.cellOut (by dsimp only; omega) e0
      replace e1 := ks.cellOut (by dsimp only; omega) e1
      replace e2 := ks.cellOut (by dsimp only; omega) e2
      replace m0 := ks.cellOut (by dsimp only; omega) m0
      replace m1 := ks.cellOut (by dsimp only; omega) m1
      replace m2 := ks.cellOut (by dsimp only; omega) m2
      replace m3 := ks.cellOut (by dsimp only; omega) m3
      replace m4 := ks.cellOut (by dsimp only; omega) m4
      replace m5 := ks.cellOut (by dsimp only; omega) m5
      have K7 := hide ((unhide KW5).wide ks (by omega))
      have KG7 := hide ((unhide KG5).trans ks)
      clear ks KW5 KG5
      clear hHeld
      refine hK.out _ _ ?_ (fun hHeld => ?_)
      · exact ⟨O1, A1, e0, e1, e2, m0, m1, m2, m3, m4, m5⟩
      clear hK KK
      try simp only [Act.put, List.getElem_toArray, List.getElem_cons_succ, List.getElem_cons_zero, List.setIfInBounds_toArray, List.set_cons_zero, List.set_cons_succ]
      refine wpAnyH_done (by kernel_rfl) ?_ _
      clear hHeld O1 A1 e0 e1 e2 m0 m1 m2 m3 m4 m5 hx0 hx1 hx2 hx3 hx4 hx5 fg0 fg1 fg2 fg3 fg4 fg5 hgw hgo
      go_wp2
      go_roundw
      case rel => exact ⟨j + 1, by simp, hlt, F5, K7, KG7⟩
      case measure => simp [intOf]; omega
    · have hjn : j = m := by omega
      subst hjn
      have O0 := (unhide kg).cellOut (a := ⟨O, 0, none⟩) (by dsimp only; omega) o0
      have O1 := (unhide kg).cellOut (a := ⟨O, 1, none⟩) (by dsimp only; omega) o1
      have Q0 := (unhide kg).cellOut (a := ⟨w.heap.size + 2, 0, none⟩) (by dsimp only; omega) q0'
      have Q1 := (unhide kg).cellOut (a := ⟨w.heap.size + 2, 1, none⟩) (by dsimp only; omega) q1'
      have Qf0 := (unhide kg).looseOut (a := ⟨w.heap.size + 2, 0, none⟩) (by dsimp only; omega) (World.block_lt_of_cell? _ _ q0') f0'
      have Qf1 := (unhide kg).looseOut (a := ⟨w.heap.size + 2, 1, none⟩) (by dsimp only; omega) (World.block_lt_of_cell? _ _ q1') f1'
      have DD := ivsO_done (unhide hF) (unhide HPLN) (by unfold maxLen; omega)
      have ks : Kept (w.heap.size + 2) (w.heap.size + 3) wr ((wr.setCell ⟨w.heap.size + 2, 0, none⟩ (.int .i64 (k : Int))).setCell ⟨w.heap.size + 2, 1, none⟩ (.slice (some ⟨g, 0, none⟩) j j)) := ((Kept.refl _ _ _).setCell (p := ⟨w.heap.size + 2, 0, none⟩) (Nat.le_refl _) (Nat.lt_succ_self _) _).setCell (p := ⟨w.heap.size + 2, 1, none⟩) (Nat.le_refl _) (Nat.lt_succ_self _) _
      have hsz : ((wr.setCell ⟨w.heap.size + 2, 0, none⟩ (.int .i64 (k : Int))).setCell ⟨w.heap.size + 2, 1, none⟩ (.slice (some ⟨g, 0, none⟩) j j)).heap.size = wr.heap.size := by rw [size_set, size_set]
      have R7 := hide ((DD.kept ks (by omega)).wider (lo' := w.heap.size) (hi' := ((wr.setCell ⟨w.heap.size + 2, 0, none⟩ (.int .i64 (k : Int))).setCell ⟨w.heap.size + 2, 1, none⟩ (.slice (some ⟨g, 0, none⟩) j j)).heap.size) (by omega) (by omega))
      have K7 := hide ((unhide kw).wide ks (by omega))
      clear hF kg kw DD ks hsz hgo hgw
      go_wp2
      exact bodyPost_ret (v := .agg #[.int .i64 (k : Int), .slice (some ⟨g, 0, none⟩) j j]) (by simp [results, Tryz.results61, go_sem, Q0, Q1]) rfl ⟨.slice (some ⟨g, 0, none⟩) j j, rfl, unhide R7, unhide K7⟩

end Go.Proofs.YthahoabkehcgbaaGreatDoor

