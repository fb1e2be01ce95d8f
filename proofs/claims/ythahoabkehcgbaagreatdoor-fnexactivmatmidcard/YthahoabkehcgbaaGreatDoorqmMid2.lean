/-
  IvMatMid of the model.
-/
import Derived.Test.YthahoabkehcgbaaGreatDoorqmMid1
import Derived.Test.YthahoabkehcgbaaGreatDoorqmNr4g
import Derived.Deep.DeepCutAuto
import Derived.Deep.RegionHeld3
namespace Go.Proofs.YthahoabkehcgbaaGreatDoor
open Go.RowKit
set_option linter.unusedVariables false
set_option maxRecDepth 8000
set_option linter.unusedSimpArgs false

theorem nE_half {V : Int} (h : V ≠ 0) : nE V (-3001) = ((nE V (-3000)).1, (nE V (-3000)).2.1, (nE V (-3000)).2.2 - 1) := by
  unfold nE
  have e : dex V (-3001) = dex V (-3000) - 1 := by unfold dex; rw [if_neg h, if_neg h]; omega
  rw [e]
theorem nE_len {V : Int} {s : Bool} {z : List Int} {y : Int} (h : (s, z, y) = nE V (-3000)) : (0 < z.length → nE V (-3001) = (s, z, y - 1)) ∧ (¬ 0 < z.length → nE V (-3001) = (s, z, y)) := by
  by_cases h0 : V = 0
  · subst h0
    rw [nE_zero] at h
    rw [nE_zero]
    injection h with h1 h2
    injection h2 with h2 h3
    subst h1; subst h2; subst h3
    exact ⟨fun h => absurd h (by simp), fun _ => rfl⟩
  · have hz : z = dlm V := by unfold nE at h; injection h with h1 h2; injection h2
    have := (dlm_pos h0).1
    rw [← hz] at this
    refine ⟨fun _ => ?_, fun h => absurd this h⟩
    rw [nE_half h0, ← h]

set_option maxHeartbeats 16000000 in
theorem mid8_spec {k n lo hi : Nat} {v : Value} {ds : List DE} (w : World) (hk0 : 0 < k) (hk : k ≤ 4) (hl : n = k * k) (U : ∀ q, q < 2 * n → dOkE (ds.getD q de0) = true) (r : Ivs lo hi w v ds n) :
    Calls Tryz.prog 69 #[.agg #[.int .i64 (k : Int), v]] w fun e w' => ∃ v', e = .returned (.agg #[.int .i64 (k : Int), v']) ∧ DysO w.heap.size w'.heap.size w' v' ((List.range n).map fun p => nE (midV ds p) (-3001)) ∧ Kept 0 0 w w' := by
  obtain ⟨W, hW⟩ : ∃ W, W = (w.alloc (.cells #[.int .i64 (k : Int), v] 28)).alloc (.cells #[.int .i64 0, .slice none 0 0] 59) := ⟨_, rfl⟩
  have k0 : Kept 0 0 w W := by rw [hW]; exact ((Kept.refl 0 0 w).alloc _).alloc _
  have c0 : W.cell? ⟨w.heap.size, 0, none⟩ = some (.int .i64 (k : Int)) := by rw [hW]; exact old_cell _ (new_cell2 _ _ _ _ _ _ (by simp) rfl)
  have c1 : W.cell? ⟨w.heap.size, 1, none⟩ = some v := by rw [hW]; exact old_cell _ (new_cell2 _ _ _ _ _ _ (by simp) rfl)
  have q0 : W.cell? ⟨w.heap.size + 1, 0, none⟩ = some (.int .i64 0) := by rw [hW]; exact new_cell2 _ _ _ _ _ _ (by simp) rfl
  have q1 : W.cell? ⟨w.heap.size + 1, 1, none⟩ = some (.slice none 0 0) := by rw [hW]; exact new_cell2 _ _ _ _ _ _ (by simp) rfl
  have f0 : W.frozen? ⟨w.heap.size + 1, 0, none⟩ = false := by rw [hW]; exact new_loose2 _ _ _ _ _ (by simp)
  have f1 : W.frozen? ⟨w.heap.size + 1, 1, none⟩ = false := by rw [hW]; exact new_loose2 _ _ _ _ _ (by simp)
  have sW : W.heap.size = w.heap.size + 2 := by rw [hW]; simp
  have h16 : k * k ≤ 4 * 4 := Nat.mul_le_mul hk hk
  obtain ⟨PL, hPL⟩ : ∃ PL, PL = (List.range n).map fun p => nE (midV ds p) (-3001) := ⟨_, rfl⟩
  have hn8 := new8_spec hk W PL
  rw [← hl] at hn8 h16
  rw [← hPL]
  obtain ⟨a, c, rfl, -, -⟩ := r.form
  have R := hide r
  have HPL := hide hPL
  have HNN := hide hl
  have HU := hide U
  have SW := hide sW
  have HPN := hide (show n = PL.length by rw [hPL]; simp)
  rw [hW] at hn8
  clear r hPL U sW hl
  go_enter Tryz.func69, Tryz.ntmps69
  go_wp2_with fail
  refine hn8.mono ?_
  rw [← hW]
  rintro e w1 ⟨g, rfl, F0, hg, k1⟩
  clear hn8 hW
  obtain ⟨O, hO⟩ : ∃ O, O = w1.heap.size := ⟨_, rfl⟩
  have o0 : (w1.alloc (.cells #[.int .i64 (k : Int), .slice (some ⟨g, 0, none⟩) n n] 59)).cell? ⟨O, 0, none⟩ = some (.int .i64 (k : Int)) := new_cell2 _ _ _ _ _ _ hO rfl
  have o1 : (w1.alloc (.cells #[.int .i64 (k : Int), .slice (some ⟨g, 0, none⟩) n n] 59)).cell? ⟨O, 1, none⟩ = some (.slice (some ⟨g, 0, none⟩) n n) := new_cell2 _ _ _ _ _ _ hO rfl
  have k2 := (Kept.refl 0 0 w1).alloc (.cells #[.int .i64 (k : Int), .slice (some ⟨g, 0, none⟩) n n] 59)
  have hgO : g < O := by have := F0.lt; omega
  have hOl : O < (w1.alloc (.cells #[.int .i64 (k : Int), .slice (some ⟨g, 0, none⟩) n n] 59)).heap.size := World.block_lt_of_cell? _ _ o0
  have kk := k1.trans k2
  have c1' := kk.cell0 c1
  have q0' := kk.cell0 q0
  have q1' := kk.cell0 q1
  have f0' := kk.loose0 (World.block_lt_of_cell? _ _ q0) f0
  have f1' := kk.loose0 (World.block_lt_of_cell? _ _ q1) f1
  have F1 := hide (F0.kept k2)
  have K2 := hide (k0.trans kk)
  have sW := unhide SW
  have hgw : w.heap.size + 2 ≤ g := by omega
  have HGW := hide hgw
  have HGO := hide (show g < O from hgO)
  clear F0 k0 k1 k2 kk c0 c1 q0 q1 f0 f1 hg sW hgw hgO hOl
  go_wp2_with fail
  rw [← hO]
  generalize (w1.alloc (.cells #[.int .i64 (k : Int), .slice (some ⟨g, 0, none⟩) n n] 59)) = w2 at *
  clear hO
  go_loopw [4] (fun s4 wr => ∃ j : Nat, s4 = .int .i64 j ∧ j ≤ n ∧ Hid (Fill 0 g n PL j wr) ∧ Hid (Kept 0 0 w wr) ∧ Hid (Kept g (g + 1) w2 wr)) (fun s4 _ => n - (intOf s4).toNat)
  case atStart => exact ⟨0, rfl, Nat.zero_le _, F1, K2, Kept.refl _ _ _⟩
  case round =>
    clear F1 K2
    obtain ⟨j, rfl, hj, hF, kw, kg⟩ := hrel
    have hwj : IntKind.i64.wrap ((j : Int) + 1) = ((j + 1 : Nat) : Int) := by rw [IntKind.wrap_i64]; omega
    have hgw := unhide HGW
    have hgo := unhide HGO
    have C1 := (unhide kg).cellOut (a := ⟨w.heap.size, 1, none⟩) (by dsimp only; omega) c1'
    by_cases hlt : j < n
    · have kgd := (unhide kg).drew
      have kd := (unhide kw).drew
      have O1 := kgd.cellOut (a := ⟨O, 1, none⟩) (by dsimp only; omega) o1
      have A1 := kgd.cellOut (a := ⟨w.heap.size, 1, none⟩) (by dsimp only; omega) c1'
      obtain ⟨gA, off, l0, l1, rfl, -, -, hgA, b, kb, b', kb', m0, m1, m2, m3, m4, m5, hln0, hln1, rr0, rr1⟩ := (unhide R).at (i := j) hlt
      have hk0 := unhide HU (2 * j) (by omega)
      have hk1 := unhide HU (2 * j + 1) (by omega)
      have hVl := midV_lt hk0 hk1
      have hWF : midV ds j = dv (-3000) (ds.getD (2 * j) de0) + dv (-3000) (ds.getD (2 * j + 1) de0) := rfl
      have HE0 : PL.getD j de0 = nE (midV ds j) (-3001) := by rw [unhide HPL, map_at _ _ _ hlt]
      obtain ⟨⟨s0, z0, y0⟩, hE0⟩ : ∃ q, q = ds.getD (2 * j) de0 := ⟨_, rfl⟩
      obtain ⟨⟨s1, z1, y1⟩, hE1⟩ : ∃ q, q = ds.getD (2 * j + 1) de0 := ⟨_, rfl⟩
      rw [← hE0] at m0 m2 hln0 rr0 hk0 hWF
      rw [← hE1] at m3 m5 hln1 rr1 hk1 hWF
      dsimp only at m0 m2 hln0 rr0 m3 m5 hln1 rr1
      replace m0 := kd.cell0 m0
      replace m1 := kd.cell0 m1
      replace m2 := kd.cell0 m2
      replace m3 := kd.cell0 m3
      replace m4 := kd.cell0 m4
      replace m5 := kd.cell0 m5
      have iv0 := (dok_nv hk0 (Int.le_refl (-3000))).1
      have iv1 := (dok_nv hk1 (Int.le_refl (-3000))).1
      have wby := nE_wbT hVl
      obtain ⟨⟨sr, zr, yr⟩, hR⟩ : ∃ q, q = nE (midV ds j) (-3000) := ⟨_, rfl⟩
      rw [← hR] at wby
      obtain ⟨hP1, hP0⟩ := nE_len hR
      rw [← HE0] at hP1 hP0
      have hwy : IntKind.i64.wrap (yr - 1) = yr - 1 := w64 _ (by have := wby.2.2.1; dsimp only at this; omega) (by have := wby.2.2.2; dsimp only at this; omega)
      have hR' : (sr, zr, yr) = (wsg (wval s0 z0 * 2 ^ (y0 - min y0 y1).toNat + wval s1 z1 * 2 ^ (y1 - min y0 y1).toNat), dlm (wval s0 z0 * 2 ^ (y0 - min y0 y1).toNat + wval s1 z1 * 2 ^ (y1 - min y0 y1).toNat), dex (wval s0 z0 * 2 ^ (y0 - min y0 y1).toNat + wval s1 z1 * 2 ^ (y1 - min y0 y1).toNat) (min y0 y1)) := by
        rw [hR, hWF, ← sum_nE iv0 iv1]
        rfl
      simp only [Prod.mk.injEq] at hR'
      have HAD : Hid (∀ w' : World, Kept 0 0 wr.drew w' → Calls Tryz.prog 124 #[.agg #[.bool s0, .slice b l0 kb, .int .i64 y0], .agg #[.bool s1, .slice b' l1 kb', .int .i64 y1]] w' fun e w'' => ∃ v', e = .returned (.agg #[.bool sr, v', .int .i64 yr]) ∧ Row .i64 true w'.heap.size w''.heap.size w'' v' zr ∧ Kept 0 0 w' w'') := fun w' kw' => by
        have had := add4_wide s0 s1 y0 y1 w' (rr0.kept (kd.trans kw') (by omega)) (rr1.kept (kd.trans kw') (by omega)) (dok_wb hk0) (dok_wb hk1)
        rw [← hR'.1, ← hR'.2.1, ← hR'.2.2] at had
        exact had
      have KD := hide kd
      have KGD := hide kgd
      have hFd := hide ((unhide hF).kept ((Kept.refl 0 0 wr).drew))
      have HP1 := hide hP1
      have HP0 := hide hP0
      clear hln0 hln1 hWF HE0 hE0 hE1 hk0 hk1 hVl iv0 iv1 wby hR hR' rr0 rr1 kd kgd hF kw kg hP1 hP0
      go_wp2_with fail
      refine wp_region_held_drew (S := (fun w' => w'.cell? ⟨O, 1, none⟩ = some (.slice (some ⟨g, 0, none⟩) n n) ∧ w'.cell? ⟨w.heap.size, 1, none⟩ = some (.slice (some ⟨gA, off, none⟩) n c) ∧ w'.cell? ⟨gA, off + j * 6, none⟩ = some (.bool s0) ∧ w'.cell? ⟨gA, off + j * 6 + 1, none⟩ = some (.slice b l0 kb) ∧ w'.cell? ⟨gA, off + j * 6 + 2, none⟩ = some (.int .i64 y0) ∧ w'.cell? ⟨gA, off + j * 6 + 3, none⟩ = some (.bool s1) ∧ w'.cell? ⟨gA, off + j * 6 + 4, none⟩ = some (.slice b' l1 kb') ∧ w'.cell? ⟨gA, off + j * 6 + 5, none⟩ = some (.int .i64 y1))) (by kernel_rfl) ?_ (fun hHeld => ?_)
      · exact ⟨O1, A1, m0, m1, m2, m3, m4, m5⟩
      refine wpAnyH_take (i := 0) (oi := _) (v := .pointer (some ⟨w.heap.size, 1, none⟩)) rfl (by kernel_rfl) (by kernel_rfl) (by kernel_rfl) (fun _ _ _ h => h) (Or.inl ⟨by rfl, ?_⟩) hHeld ?_
      · intro wq hSw
        try dsimp only at hSw
        go_simp
      try simp only [Act.put, List.getElem_toArray, List.getElem_cons_succ, List.getElem_cons_zero, List.setIfInBounds_toArray, List.set_cons_zero, List.set_cons_succ]
      refine wpAnyH_take (i := 1) (oi := _) (v := .slice (some ⟨gA, off, none⟩) n c) rfl (by kernel_rfl) (by kernel_rfl) (by kernel_rfl) (fun _ _ _ h => h) (Or.inl ⟨by rfl, ?_⟩) hHeld ?_
      · intro wq hSw
        try dsimp only at hSw
        go_simp
      try simp only [Act.put, List.getElem_toArray, List.getElem_cons_succ, List.getElem_cons_zero, List.setIfInBounds_toArray, List.set_cons_zero, List.set_cons_succ]
      refine wpAnyH_take (i := 2) (oi := _) (v := .int .i64 (j : Int)) rfl (by kernel_rfl) (by kernel_rfl) (by kernel_rfl) (fun _ _ _ h => h) (Or.inl ⟨by rfl, ?_⟩) hHeld ?_
      · intro wq hSw
        try dsimp only at hSw
        go_simp
      try simp only [Act.put, List.getElem_toArray, List.getElem_cons_succ, List.getElem_cons_zero, List.setIfInBounds_toArray, List.set_cons_zero, List.set_cons_succ]
      refine wpAnyH_take (i := 3) (oi := _) (v := .pointer (some ⟨gA, off + j * 6, none⟩)) rfl (by kernel_rfl) (by kernel_rfl) (by kernel_rfl) (fun _ _ _ h => h) (Or.inl ⟨by rfl, ?_⟩) hHeld ?_
      · intro wq hSw
        try dsimp only at hSw
        go_simp
      try simp only [Act.put, List.getElem_toArray, List.getElem_cons_succ, List.getElem_cons_zero, List.setIfInBounds_toArray, List.set_cons_zero, List.set_cons_succ]
      refine wpAnyH_take (i := 4) (oi := _) (v := .pointer (some ⟨gA, off + j * 6, none⟩)) rfl (by kernel_rfl) (by kernel_rfl) (by kernel_rfl) (fun _ _ _ h => h) (Or.inl ⟨by rfl, ?_⟩) hHeld ?_
      · intro wq hSw
        try dsimp only at hSw
        go_simp
      try simp only [Act.put, List.getElem_toArray, List.getElem_cons_succ, List.getElem_cons_zero, List.setIfInBounds_toArray, List.set_cons_zero, List.set_cons_succ]
      refine wpAnyH_take (i := 5) (oi := _) (v := .agg #[.bool s0, .slice b l0 kb, .int .i64 y0]) rfl (by kernel_rfl) (by kernel_rfl) (by kernel_rfl) (fun _ _ _ h => h) (Or.inl ⟨by rfl, ?_⟩) hHeld ?_
      · intro wq hSw
        try dsimp only at hSw
        go_simp
      try simp only [Act.put, List.getElem_toArray, List.getElem_cons_succ, List.getElem_cons_zero, List.setIfInBounds_toArray, List.set_cons_zero, List.set_cons_succ]
      refine wpAnyH_take (i := 6) (oi := _) (v := .pointer (some ⟨w.heap.size, 1, none⟩)) rfl (by kernel_rfl) (by kernel_rfl) (by kernel_rfl) (fun _ _ _ h => h) (Or.inl ⟨by rfl, ?_⟩) hHeld ?_
      · intro wq hSw
        try dsimp only at hSw
        go_simp
      try simp only [Act.put, List.getElem_toArray, List.getElem_cons_succ, List.getElem_cons_zero, List.setIfInBounds_toArray, List.set_cons_zero, List.set_cons_succ]
      refine wpAnyH_take (i := 7) (oi := _) (v := .slice (some ⟨gA, off, none⟩) n c) rfl (by kernel_rfl) (by kernel_rfl) (by kernel_rfl) (fun _ _ _ h => h) (Or.inl ⟨by rfl, ?_⟩) hHeld ?_
      · intro wq hSw
        try dsimp only at hSw
        go_simp
      try simp only [Act.put, List.getElem_toArray, List.getElem_cons_succ, List.getElem_cons_zero, List.setIfInBounds_toArray, List.set_cons_zero, List.set_cons_succ]
      refine wpAnyH_take (i := 8) (oi := _) (v := .int .i64 (j : Int)) rfl (by kernel_rfl) (by kernel_rfl) (by kernel_rfl) (fun _ _ _ h => h) (Or.inl ⟨by rfl, ?_⟩) hHeld ?_
      · intro wq hSw
        try dsimp only at hSw
        go_simp
      try simp only [Act.put, List.getElem_toArray, List.getElem_cons_succ, List.getElem_cons_zero, List.setIfInBounds_toArray, List.set_cons_zero, List.set_cons_succ]
      refine wpAnyH_take (i := 9) (oi := _) (v := .pointer (some ⟨gA, off + j * 6, none⟩)) rfl (by kernel_rfl) (by kernel_rfl) (by kernel_rfl) (fun _ _ _ h => h) (Or.inl ⟨by rfl, ?_⟩) hHeld ?_
      · intro wq hSw
        try dsimp only at hSw
        go_simp
      try simp only [Act.put, List.getElem_toArray, List.getElem_cons_succ, List.getElem_cons_zero, List.setIfInBounds_toArray, List.set_cons_zero, List.set_cons_succ]
      refine wpAnyH_take (i := 10) (oi := _) (v := .pointer (some ⟨gA, off + j * 6 + 3, none⟩)) rfl (by kernel_rfl) (by kernel_rfl) (by kernel_rfl) (fun _ _ _ h => h) (Or.inl ⟨by rfl, ?_⟩) hHeld ?_
      · intro wq hSw
        try dsimp only at hSw
        go_simp
      try simp only [Act.put, List.getElem_toArray, List.getElem_cons_succ, List.getElem_cons_zero, List.setIfInBounds_toArray, List.set_cons_zero, List.set_cons_succ]
      refine wpAnyH_take (i := 11) (oi := _) (v := .agg #[.bool s1, .slice b' l1 kb', .int .i64 y1]) rfl (by kernel_rfl) (by kernel_rfl) (by kernel_rfl) (fun _ _ _ h => h) (Or.inl ⟨by rfl, ?_⟩) hHeld ?_
      · intro wq hSw
        try dsimp only at hSw
        go_simp
      try simp only [Act.put, List.getElem_toArray, List.getElem_cons_succ, List.getElem_cons_zero, List.setIfInBounds_toArray, List.set_cons_zero, List.set_cons_succ]
      have KZ := hide (Kept.refl 0 0 wr.drew)
      generalize wr.drew = wd at *
      have bO := World.block_lt_of_cell? _ _ O1
      have bA := World.block_lt_of_cell? _ _ m0
      have bW := World.block_lt_of_cell? _ _ A1
      have bG := (unhide hFd).lt
      dsimp only at bO bA bW
      have BB := hide (And.intro bO (And.intro bA (And.intro bW bG)))
      clear bO bA bW bG
      refine wpAnyH_ready (rs := [12, 13]) (by kernel_rfl) (by simp) ?_
      refine AllReadyH.cons rfl (fun KK hK => ?_) (AllReadyH.cons rfl (fun KK hK => ?_) AllReadyH.nil)
      · simp only [List.getElem_toArray, List.getElem_cons_succ, List.getElem_cons_zero]
        rw [if_pos (by rfl)]
        refine wps2 124 (.tmp 21) (.tmp 27) _ rfl in_l4add (.agg #[.bool s0, .slice b l0 kb, .int .i64 y0]) (.agg #[.bool s1, .slice b' l1 kb', .int .i64 y1]) rfl rfl (unhide HAD wd (unhide KZ)) ?_
        rintro e w4 ⟨v4, rfl, r4, k4⟩
        refine ⟨_, rfl, ?_⟩
        obtain ⟨ar, cr, hv4⟩ := Row.form' r4
        subst hv4
        have K4 := hide k4
        replace O1 := k4.cell0 O1
        replace A1 := k4.cell0 A1
        replace m0 := k4.cell0 m0
        replace m1 := k4.cell0 m1
        replace m2 := k4.cell0 m2
        replace m3 := k4.cell0 m3
        replace m4 := k4.cell0 m4
        replace m5 := k4.cell0 m5
        clear k4
        clear hHeld
        refine hK.out _ _ ?_ (fun hHeld => ?_)
        · exact ⟨O1, A1, m0, m1, m2, m3, m4, m5⟩
        clear hK KK
        try simp only [Act.put, List.getElem_toArray, List.getElem_cons_succ, List.getElem_cons_zero, List.setIfInBounds_toArray, List.set_cons_zero, List.set_cons_succ]
        refine wpAnyH_ready (rs := [13]) (by kernel_rfl) (by simp) ?_
        refine AllReadyH.cons rfl (fun KK hK => ?_) AllReadyH.nil
        simp only [List.getElem_toArray, List.getElem_cons_succ, List.getElem_cons_zero]
        rw [if_pos (by rfl)]
        go_simp
        obtain ⟨X, hX⟩ : ∃ X, X = w4.heap.size := ⟨_, rfl⟩
        rw [← hX]
        have kn := (Kept.refl 0 0 w4).alloc (.cells #[.bool false, .slice none 0 0, .int .i64 0] 52)
        replace O1 := kn.cell0 O1
        replace A1 := kn.cell0 A1
        replace m0 := kn.cell0 m0
        replace m1 := kn.cell0 m1
        replace m2 := kn.cell0 m2
        replace m3 := kn.cell0 m3
        replace m4 := kn.cell0 m4
        replace m5 := kn.cell0 m5
        have x0 : (w4.alloc (.cells #[.bool false, .slice none 0 0, .int .i64 0] 52)).cell? ⟨X, 0, none⟩ = some (.bool false) := new_cell2 _ _ _ _ _ _ hX rfl
        have fx0 : (w4.alloc (.cells #[.bool false, .slice none 0 0, .int .i64 0] 52)).frozen? ⟨X, 0, none⟩ = false := new_loose2 _ _ _ _ _ hX
        have x1 : (w4.alloc (.cells #[.bool false, .slice none 0 0, .int .i64 0] 52)).cell? ⟨X, 1, none⟩ = some (.slice none 0 0) := new_cell2 _ _ _ _ _ _ hX rfl
        have fx1 : (w4.alloc (.cells #[.bool false, .slice none 0 0, .int .i64 0] 52)).frozen? ⟨X, 1, none⟩ = false := new_loose2 _ _ _ _ _ hX
        have x2 : (w4.alloc (.cells #[.bool false, .slice none 0 0, .int .i64 0] 52)).cell? ⟨X, 2, none⟩ = some (.int .i64 0) := new_cell2 _ _ _ _ _ _ hX rfl
        have fx2 : (w4.alloc (.cells #[.bool false, .slice none 0 0, .int .i64 0] 52)).frozen? ⟨X, 2, none⟩ = false := new_loose2 _ _ _ _ _ hX
        have szn : (w4.alloc (.cells #[.bool false, .slice none 0 0, .int .i64 0] 52)).heap.size = w4.heap.size + 1 := by simp
        have K5 : Hid (Kept 0 0 wd (w4.alloc (.cells #[.bool false, .slice none 0 0, .int .i64 0] 52))) := (unhide K4).trans kn
        have R5 := hide (r4.kept kn (.inr (.inr (Nat.le_refl 0))))
        rw [← hX] at R5
        have HX : Hid (wd.heap.size ≤ X ∧ X < (w4.alloc (.cells #[.bool false, .slice none 0 0, .int .i64 0] 52)).heap.size ∧ X ≤ (w4.alloc (.cells #[.bool false, .slice none 0 0, .int .i64 0] 52)).heap.size ∧ (X < wd.heap.size ∨ X ≤ X)) := ⟨by rw [hX]; exact (unhide K4).size, by omega, by omega, .inr (Nat.le_refl _)⟩
        have HXL := hide (Nat.le_refl wd.heap.size)
        clear r4 K4 kn szn KZ
        clear hHeld
        refine hK.out _ _ ?_ (fun hHeld => ?_)
        · exact ⟨O1, A1, m0, m1, m2, m3, m4, m5⟩
        clear hK KK
        try simp only [Act.put, List.getElem_toArray, List.getElem_cons_succ, List.getElem_cons_zero, List.setIfInBounds_toArray, List.set_cons_zero, List.set_cons_succ]
        generalize w4.alloc (.cells #[.bool false, .slice none 0 0, .int .i64 0] 52) = w5 at *
        clear hX
        refine wpAnyH_ready (rs := [14]) (by kernel_rfl) (by simp) ?_
        refine AllReadyH.cons rfl (fun KK hK => ?_) AllReadyH.nil
        simp only [List.getElem_toArray, List.getElem_cons_succ, List.getElem_cons_zero]
        rw [if_pos (by rfl)]
        go_simp
        obtain ⟨bO, bA, bW, bG⟩ := unhide BB
        obtain ⟨hX0, hX1, hX2, hX3⟩ := unhide HX
        have ks : Kept X (X + 1) w5 (((w5.setCell ⟨X, 0, none⟩ (.bool sr)).setCell ⟨X, 1, none⟩ (.slice ar zr.length cr)).setCell ⟨X, 2, none⟩ (.int .i64 yr)) := (((Kept.refl _ _ _).setCell (p := ⟨X, 0, none⟩) (Nat.le_refl _) (Nat.lt_succ_self _) _).setCell (p := ⟨X, 1, none⟩) (Nat.le_refl _) (Nat.lt_succ_self _) _).setCell (p := ⟨X, 2, none⟩) (Nat.le_refl _) (Nat.lt_succ_self _) _
        replace O1 := ks.cellOut (by dsimp only; omega) O1
        replace A1 := ks.cellOut (by dsimp only; omega) A1
        replace m0 := ks.cellOut (by dsimp only; omega) m0
        replace m1 := ks.cellOut (by dsimp only; omega) m1
        replace m2 := ks.cellOut (by dsimp only; omega) m2
        replace m3 := ks.cellOut (by dsimp only; omega) m3
        replace m4 := ks.cellOut (by dsimp only; omega) m4
        replace m5 := ks.cellOut (by dsimp only; omega) m5
        clear hHeld
        refine hK.out _ _ ?_ (fun hHeld => ?_)
        · exact ⟨O1, A1, m0, m1, m2, m3, m4, m5⟩
        clear hK KK
        try simp only [Act.put, List.getElem_toArray, List.getElem_cons_succ, List.getElem_cons_zero, List.setIfInBounds_toArray, List.set_cons_zero, List.set_cons_succ]
        refine wpAnyH_done (by kernel_rfl) ?_ _
        clear hHeld
        have y0' := cell_off _ _ _ 2 (.int .i64 yr) _ (cell_off _ _ _ 1 (.slice ar zr.length cr) _ (cell_on _ _ _ (.bool sr) _ x0) (show (0 : Nat) ≠ 1 by omega)) (show (0 : Nat) ≠ 2 by omega)
        have y1' := cell_off _ _ _ 2 (.int .i64 yr) _ (cell_on _ _ _ (.slice ar zr.length cr) _ (cell_off _ _ _ 0 (.bool sr) _ x1 (show (1 : Nat) ≠ 0 by omega))) (show (1 : Nat) ≠ 2 by omega)
        have y2' := cell_on _ _ _ (.int .i64 yr) _ (cell_off _ _ _ 1 (.slice ar zr.length cr) _ (cell_off _ _ _ 0 (.bool sr) _ x2 (show (2 : Nat) ≠ 0 by omega)) (show (2 : Nat) ≠ 1 by omega))
        have fy2 : (((w5.setCell ⟨X, 0, none⟩ (.bool sr)).setCell ⟨X, 1, none⟩ (.slice ar zr.length cr)).setCell ⟨X, 2, none⟩ (.int .i64 yr)).frozen? ⟨X, 2, none⟩ = false := by rw [frozen_set, frozen_set, frozen_set]; exact fx2
        have K6 : Hid (Kept 0 0 wd (((w5.setCell ⟨X, 0, none⟩ (.bool sr)).setCell ⟨X, 1, none⟩ (.slice ar zr.length cr)).setCell ⟨X, 2, none⟩ (.int .i64 yr))) := (unhide K5).wide ks hX0
        have R6 := hide ((unhide R5).kept ks (by omega))
        have hsz : (((w5.setCell ⟨X, 0, none⟩ (.bool sr)).setCell ⟨X, 1, none⟩ (.slice ar zr.length cr)).setCell ⟨X, 2, none⟩ (.int .i64 yr)).heap.size = w5.heap.size := by rw [size_set, size_set, size_set]
        rw [← hsz] at hX1 hX2
        replace HX := hide (And.intro hX0 (And.intro hX1 (And.intro hX2 hX3)))
        clear x0 x1 x2 fx0 fx1 fx2 ks hsz K5 R5 hX0 hX1 hX2 hX3 bO bA bW bG
        generalize (((w5.setCell ⟨X, 0, none⟩ (.bool sr)).setCell ⟨X, 1, none⟩ (.slice ar zr.length cr)).setCell ⟨X, 2, none⟩ (.int .i64 yr)) = w6 at *
        obtain ⟨u0, hx0⟩ := (unhide hFd).cell (j * 3) (by omega)
        replace hx0 := (unhide K6).cell0 hx0
        have fg0 := (unhide K6).loose0 (a := ⟨g, j * 3, none⟩) (unhide BB).2.2.2 ((unhide hFd).loose (j * 3) (by omega))
        obtain ⟨u1, hx1⟩ := (unhide hFd).cell (j * 3 + 1) (by omega)
        replace hx1 := (unhide K6).cell0 hx1
        have fg1 := (unhide K6).loose0 (a := ⟨g, j * 3 + 1, none⟩) (unhide BB).2.2.2 ((unhide hFd).loose (j * 3 + 1) (by omega))
        obtain ⟨u2, hx2⟩ := (unhide hFd).cell (j * 3 + 2) (by omega)
        replace hx2 := (unhide K6).cell0 hx2
        have fg2 := (unhide K6).loose0 (a := ⟨g, j * 3 + 2, none⟩) (unhide BB).2.2.2 ((unhide hFd).loose (j * 3 + 2) (by omega))
        have KW := hide ((unhide KD).trans (unhide K6))
        have KG := hide ((unhide KGD).trans (unhide K6).any)
        have hXX := (unhide HX).1
        have hd1 := (unhide KD).size
        have hd2 := (unhide KGD).size
        by_cases hz : 0 < zr.length
        · have F4 := hide ((unhide hFd).step hlt ((unhide K6).setNew (p := ⟨X, 2, none⟩) hXX (.int .i64 (yr - 1))) (((unhide R6).set_other (p := ⟨X, 2, none⟩) (unhide HX).2.2.2 (.int .i64 (yr - 1))).wider (by exact (unhide HXL)) (by rw [size_set]; exact (unhide HX).2.2.1)) (unhide HP1 hz))
          have K7 := hide (((unhide KW).setNew (p := ⟨X, 2, none⟩) (Nat.le_trans hd1 hXX) (.int .i64 (yr - 1))).wide ((((Kept.refl g (g + 1) _).setCell (p := ⟨g, j * 3, none⟩) (Nat.le_refl _) (Nat.lt_succ_self _) (.bool sr)).setCell (p := ⟨g, j * 3 + 1, none⟩) (Nat.le_refl _) (Nat.lt_succ_self _) (.slice ar zr.length cr)).setCell (p := ⟨g, j * 3 + 2, none⟩) (Nat.le_refl _) (Nat.lt_succ_self _) (.int .i64 (yr - 1))) (by omega))
          have G7 := hide (((unhide KG).setNew (p := ⟨X, 2, none⟩) (Nat.le_trans hd2 hXX) (.int .i64 (yr - 1))).trans ((((Kept.refl g (g + 1) _).setCell (p := ⟨g, j * 3, none⟩) (Nat.le_refl _) (Nat.lt_succ_self _) (.bool sr)).setCell (p := ⟨g, j * 3 + 1, none⟩) (Nat.le_refl _) (Nat.lt_succ_self _) (.slice ar zr.length cr)).setCell (p := ⟨g, j * 3 + 2, none⟩) (Nat.le_refl _) (Nat.lt_succ_self _) (.int .i64 (yr - 1))))
          have hgX : g ≠ X := by have := (unhide BB).2.2.2; omega
          have hOX : O ≠ X := by have := (unhide BB).1; omega
          clear HAD K6 R6 KD KGD KW KG hFd hXX hd1 hd2 HP1 HP0 HX HXL BB m0 m1 m2 m3 m4 m5 A1 C1
          go_wp2
          go_roundw
          case rel => exact ⟨j + 1, by simp, hlt, F4, K7, G7⟩
          case measure => simp [intOf]; omega
        · have F4 := hide ((unhide hFd).step hlt (unhide K6) ((unhide R6).wider (by exact (unhide HXL)) (unhide HX).2.2.1) (unhide HP0 hz))
          have K7 := hide ((unhide KW).wide ((((Kept.refl g (g + 1) _).setCell (p := ⟨g, j * 3, none⟩) (Nat.le_refl _) (Nat.lt_succ_self _) (.bool sr)).setCell (p := ⟨g, j * 3 + 1, none⟩) (Nat.le_refl _) (Nat.lt_succ_self _) (.slice ar zr.length cr)).setCell (p := ⟨g, j * 3 + 2, none⟩) (Nat.le_refl _) (Nat.lt_succ_self _) (.int .i64 yr)) (by omega))
          have G7 := hide ((unhide KG).trans ((((Kept.refl g (g + 1) _).setCell (p := ⟨g, j * 3, none⟩) (Nat.le_refl _) (Nat.lt_succ_self _) (.bool sr)).setCell (p := ⟨g, j * 3 + 1, none⟩) (Nat.le_refl _) (Nat.lt_succ_self _) (.slice ar zr.length cr)).setCell (p := ⟨g, j * 3 + 2, none⟩) (Nat.le_refl _) (Nat.lt_succ_self _) (.int .i64 yr)))
          have hgX : g ≠ X := by have := (unhide BB).2.2.2; omega
          have hOX : O ≠ X := by have := (unhide BB).1; omega
          clear HAD K6 R6 KD KGD KW KG hFd hXX hd1 hd2 HP1 HP0 HX HXL BB m0 m1 m2 m3 m4 m5 A1 C1
          go_wp2
          go_roundw
          case rel => exact ⟨j + 1, by simp, hlt, F4, K7, G7⟩
          case measure => simp [intOf]; omega
      · simp only [List.getElem_toArray, List.getElem_cons_succ, List.getElem_cons_zero]
        rw [if_pos (by rfl)]
        go_simp
        obtain ⟨X, hX⟩ : ∃ X, X = wd.heap.size := ⟨_, rfl⟩
        rw [← hX]
        have kn := (Kept.refl 0 0 wd).alloc (.cells #[.bool false, .slice none 0 0, .int .i64 0] 52)
        replace O1 := kn.cell0 O1
        replace A1 := kn.cell0 A1
        replace m0 := kn.cell0 m0
        replace m1 := kn.cell0 m1
        replace m2 := kn.cell0 m2
        replace m3 := kn.cell0 m3
        replace m4 := kn.cell0 m4
        replace m5 := kn.cell0 m5
        have x0 : (wd.alloc (.cells #[.bool false, .slice none 0 0, .int .i64 0] 52)).cell? ⟨X, 0, none⟩ = some (.bool false) := new_cell2 _ _ _ _ _ _ hX rfl
        have fx0 : (wd.alloc (.cells #[.bool false, .slice none 0 0, .int .i64 0] 52)).frozen? ⟨X, 0, none⟩ = false := new_loose2 _ _ _ _ _ hX
        have x1 : (wd.alloc (.cells #[.bool false, .slice none 0 0, .int .i64 0] 52)).cell? ⟨X, 1, none⟩ = some (.slice none 0 0) := new_cell2 _ _ _ _ _ _ hX rfl
        have fx1 : (wd.alloc (.cells #[.bool false, .slice none 0 0, .int .i64 0] 52)).frozen? ⟨X, 1, none⟩ = false := new_loose2 _ _ _ _ _ hX
        have x2 : (wd.alloc (.cells #[.bool false, .slice none 0 0, .int .i64 0] 52)).cell? ⟨X, 2, none⟩ = some (.int .i64 0) := new_cell2 _ _ _ _ _ _ hX rfl
        have fx2 : (wd.alloc (.cells #[.bool false, .slice none 0 0, .int .i64 0] 52)).frozen? ⟨X, 2, none⟩ = false := new_loose2 _ _ _ _ _ hX
        have szn : (wd.alloc (.cells #[.bool false, .slice none 0 0, .int .i64 0] 52)).heap.size = wd.heap.size + 1 := by simp
        have K4 := hide kn
        clear hHeld
        refine hK.out _ _ ?_ (fun hHeld => ?_)
        · exact ⟨O1, A1, m0, m1, m2, m3, m4, m5⟩
        clear hK KK
        try simp only [Act.put, List.getElem_toArray, List.getElem_cons_succ, List.getElem_cons_zero, List.setIfInBounds_toArray, List.set_cons_zero, List.set_cons_succ]
        generalize hw4 : wd.alloc (.cells #[.bool false, .slice none 0 0, .int .i64 0] 52) = w4 at *
        refine wpAnyH_ready (rs := [12]) (by kernel_rfl) (by simp) ?_
        refine AllReadyH.cons rfl (fun KK hK => ?_) AllReadyH.nil
        simp only [List.getElem_toArray, List.getElem_cons_succ, List.getElem_cons_zero]
        rw [if_pos (by rfl)]
        refine wps2 124 (.tmp 21) (.tmp 27) _ rfl in_l4add (.agg #[.bool s0, .slice b l0 kb, .int .i64 y0]) (.agg #[.bool s1, .slice b' l1 kb', .int .i64 y1]) rfl rfl (unhide HAD w4 (unhide K4)) ?_
        rintro e w5 ⟨v4, rfl, r4, k4⟩
        refine ⟨_, rfl, ?_⟩
        obtain ⟨ar, cr, hv4⟩ := Row.form' r4
        subst hv4
        replace O1 := k4.cell0 O1
        replace A1 := k4.cell0 A1
        replace m0 := k4.cell0 m0
        replace m1 := k4.cell0 m1
        replace m2 := k4.cell0 m2
        replace m3 := k4.cell0 m3
        replace m4 := k4.cell0 m4
        replace m5 := k4.cell0 m5
        replace fx0 := k4.loose0 (World.block_lt_of_cell? _ _ x0) fx0
        replace fx1 := k4.loose0 (World.block_lt_of_cell? _ _ x1) fx1
        replace fx2 := k4.loose0 (World.block_lt_of_cell? _ _ x2) fx2
        replace x0 := k4.cell0 x0
        replace x1 := k4.cell0 x1
        replace x2 := k4.cell0 x2
        have K5 : Hid (Kept 0 0 wd w5) := (unhide K4).trans k4
        obtain ⟨h6, hh6⟩ : ∃ h, h = w5.heap.size := ⟨_, rfl⟩
        have R5 := hide r4
        rw [← hh6] at R5
        have zz := k4.size
        have HX : Hid (wd.heap.size ≤ X ∧ X < w5.heap.size ∧ h6 ≤ w5.heap.size ∧ (X < w4.heap.size ∨ h6 ≤ X)) := ⟨by omega, by omega, by omega, .inl (by omega)⟩
        have HXL : Hid (wd.heap.size ≤ w4.heap.size) := by show _ ≤ _; omega
        clear r4 K4 k4 kn szn KZ zz hw4 hX hh6
        clear hHeld
        refine hK.out _ _ ?_ (fun hHeld => ?_)
        · exact ⟨O1, A1, m0, m1, m2, m3, m4, m5⟩
        clear hK KK
        try simp only [Act.put, List.getElem_toArray, List.getElem_cons_succ, List.getElem_cons_zero, List.setIfInBounds_toArray, List.set_cons_zero, List.set_cons_succ]
        refine wpAnyH_ready (rs := [14]) (by kernel_rfl) (by simp) ?_
        refine AllReadyH.cons rfl (fun KK hK => ?_) AllReadyH.nil
        simp only [List.getElem_toArray, List.getElem_cons_succ, List.getElem_cons_zero]
        rw [if_pos (by rfl)]
        go_simp
        obtain ⟨bO, bA, bW, bG⟩ := unhide BB
        obtain ⟨hX0, hX1, hX2, hX3⟩ := unhide HX
        have ks : Kept X (X + 1) w5 (((w5.setCell ⟨X, 0, none⟩ (.bool sr)).setCell ⟨X, 1, none⟩ (.slice ar zr.length cr)).setCell ⟨X, 2, none⟩ (.int .i64 yr)) := (((Kept.refl _ _ _).setCell (p := ⟨X, 0, none⟩) (Nat.le_refl _) (Nat.lt_succ_self _) _).setCell (p := ⟨X, 1, none⟩) (Nat.le_refl _) (Nat.lt_succ_self _) _).setCell (p := ⟨X, 2, none⟩) (Nat.le_refl _) (Nat.lt_succ_self _) _
        replace O1 := ks.cellOut (by dsimp only; omega) O1
        replace A1 := ks.cellOut (by dsimp only; omega) A1
        replace m0 := ks.cellOut (by dsimp only; omega) m0
        replace m1 := ks.cellOut (by dsimp only; omega) m1
        replace m2 := ks.cellOut (by dsimp only; omega) m2
        replace m3 := ks.cellOut (by dsimp only; omega) m3
        replace m4 := ks.cellOut (by dsimp only; omega) m4
        replace m5 := ks.cellOut (by dsimp only; omega) m5
        clear hHeld
        refine hK.out _ _ ?_ (fun hHeld => ?_)
        · exact ⟨O1, A1, m0, m1, m2, m3, m4, m5⟩
        clear hK KK
        try simp only [Act.put, List.getElem_toArray, List.getElem_cons_succ, List.getElem_cons_zero, List.setIfInBounds_toArray, List.set_cons_zero, List.set_cons_succ]
        refine wpAnyH_done (by kernel_rfl) ?_ _
        clear hHeld
        have y0' := cell_off _ _ _ 2 (.int .i64 yr) _ (cell_off _ _ _ 1 (.slice ar zr.length cr) _ (cell_on _ _ _ (.bool sr) _ x0) (show (0 : Nat) ≠ 1 by omega)) (show (0 : Nat) ≠ 2 by omega)
        have y1' := cell_off _ _ _ 2 (.int .i64 yr) _ (cell_on _ _ _ (.slice ar zr.length cr) _ (cell_off _ _ _ 0 (.bool sr) _ x1 (show (1 : Nat) ≠ 0 by omega))) (show (1 : Nat) ≠ 2 by omega)
        have y2' := cell_on _ _ _ (.int .i64 yr) _ (cell_off _ _ _ 1 (.slice ar zr.length cr) _ (cell_off _ _ _ 0 (.bool sr) _ x2 (show (2 : Nat) ≠ 0 by omega)) (show (2 : Nat) ≠ 1 by omega))
        have fy2 : (((w5.setCell ⟨X, 0, none⟩ (.bool sr)).setCell ⟨X, 1, none⟩ (.slice ar zr.length cr)).setCell ⟨X, 2, none⟩ (.int .i64 yr)).frozen? ⟨X, 2, none⟩ = false := by rw [frozen_set, frozen_set, frozen_set]; exact fx2
        have K6 : Hid (Kept 0 0 wd (((w5.setCell ⟨X, 0, none⟩ (.bool sr)).setCell ⟨X, 1, none⟩ (.slice ar zr.length cr)).setCell ⟨X, 2, none⟩ (.int .i64 yr))) := (unhide K5).wide ks hX0
        have R6 := hide ((unhide R5).kept ks (by omega))
        have hsz : (((w5.setCell ⟨X, 0, none⟩ (.bool sr)).setCell ⟨X, 1, none⟩ (.slice ar zr.length cr)).setCell ⟨X, 2, none⟩ (.int .i64 yr)).heap.size = w5.heap.size := by rw [size_set, size_set, size_set]
        rw [← hsz] at hX1 hX2
        replace HX := hide (And.intro hX0 (And.intro hX1 (And.intro hX2 hX3)))
        clear x0 x1 x2 fx0 fx1 fx2 ks hsz K5 R5 hX0 hX1 hX2 hX3 bO bA bW bG
        generalize (((w5.setCell ⟨X, 0, none⟩ (.bool sr)).setCell ⟨X, 1, none⟩ (.slice ar zr.length cr)).setCell ⟨X, 2, none⟩ (.int .i64 yr)) = w6 at *
        obtain ⟨u0, hx0⟩ := (unhide hFd).cell (j * 3) (by omega)
        replace hx0 := (unhide K6).cell0 hx0
        have fg0 := (unhide K6).loose0 (a := ⟨g, j * 3, none⟩) (unhide BB).2.2.2 ((unhide hFd).loose (j * 3) (by omega))
        obtain ⟨u1, hx1⟩ := (unhide hFd).cell (j * 3 + 1) (by omega)
        replace hx1 := (unhide K6).cell0 hx1
        have fg1 := (unhide K6).loose0 (a := ⟨g, j * 3 + 1, none⟩) (unhide BB).2.2.2 ((unhide hFd).loose (j * 3 + 1) (by omega))
        obtain ⟨u2, hx2⟩ := (unhide hFd).cell (j * 3 + 2) (by omega)
        replace hx2 := (unhide K6).cell0 hx2
        have fg2 := (unhide K6).loose0 (a := ⟨g, j * 3 + 2, none⟩) (unhide BB).2.2.2 ((unhide hFd).loose (j * 3 + 2) (by omega))
        have KW := hide ((unhide KD).trans (unhide K6))
        have KG := hide ((unhide KGD).trans (unhide K6).any)
        have hXX := (unhide HX).1
        have hd1 := (unhide KD).size
        have hd2 := (unhide KGD).size
        by_cases hz : 0 < zr.length
        · have F4 := hide ((unhide hFd).step hlt ((unhide K6).setNew (p := ⟨X, 2, none⟩) hXX (.int .i64 (yr - 1))) (((unhide R6).set_other (p := ⟨X, 2, none⟩) (unhide HX).2.2.2 (.int .i64 (yr - 1))).wider (by exact (unhide HXL)) (by rw [size_set]; exact (unhide HX).2.2.1)) (unhide HP1 hz))
          have K7 := hide (((unhide KW).setNew (p := ⟨X, 2, none⟩) (Nat.le_trans hd1 hXX) (.int .i64 (yr - 1))).wide ((((Kept.refl g (g + 1) _).setCell (p := ⟨g, j * 3, none⟩) (Nat.le_refl _) (Nat.lt_succ_self _) (.bool sr)).setCell (p := ⟨g, j * 3 + 1, none⟩) (Nat.le_refl _) (Nat.lt_succ_self _) (.slice ar zr.length cr)).setCell (p := ⟨g, j * 3 + 2, none⟩) (Nat.le_refl _) (Nat.lt_succ_self _) (.int .i64 (yr - 1))) (by omega))
          have G7 := hide (((unhide KG).setNew (p := ⟨X, 2, none⟩) (Nat.le_trans hd2 hXX) (.int .i64 (yr - 1))).trans ((((Kept.refl g (g + 1) _).setCell (p := ⟨g, j * 3, none⟩) (Nat.le_refl _) (Nat.lt_succ_self _) (.bool sr)).setCell (p := ⟨g, j * 3 + 1, none⟩) (Nat.le_refl _) (Nat.lt_succ_self _) (.slice ar zr.length cr)).setCell (p := ⟨g, j * 3 + 2, none⟩) (Nat.le_refl _) (Nat.lt_succ_self _) (.int .i64 (yr - 1))))
          have hgX : g ≠ X := by have := (unhide BB).2.2.2; omega
          have hOX : O ≠ X := by have := (unhide BB).1; omega
          clear HAD K6 R6 KD KGD KW KG hFd hXX hd1 hd2 HP1 HP0 HX HXL BB m0 m1 m2 m3 m4 m5 A1 C1
          go_wp2
          go_roundw
          case rel => exact ⟨j + 1, by simp, hlt, F4, K7, G7⟩
          case measure => simp [intOf]; omega
        · have F4 := hide ((unhide hFd).step hlt (unhide K6) ((unhide R6).wider (by exact (unhide HXL)) (unhide HX).2.2.1) (unhide HP0 hz))
          have K7 := hide ((unhide KW).wide ((((Kept.refl g (g + 1) _).setCell (p := ⟨g, j * 3, none⟩) (Nat.le_refl _) (Nat.lt_succ_self _) (.bool sr)).setCell (p := ⟨g, j * 3 + 1, none⟩) (Nat.le_refl _) (Nat.lt_succ_self _) (.slice ar zr.length cr)).setCell (p := ⟨g, j * 3 + 2, none⟩) (Nat.le_refl _) (Nat.lt_succ_self _) (.int .i64 yr)) (by omega))
          have G7 := hide ((unhide KG).trans ((((Kept.refl g (g + 1) _).setCell (p := ⟨g, j * 3, none⟩) (Nat.le_refl _) (Nat.lt_succ_self _) (.bool sr)).setCell (p := ⟨g, j * 3 + 1, none⟩) (Nat.le_refl _) (Nat.lt_succ_self _) (.slice ar zr.length cr)).setCell (p := ⟨g, j * 3 + 2, none⟩) (Nat.le_refl _) (Nat.lt_succ_self _) (.int .i64 yr)))
          have hgX : g ≠ X := by have := (unhide BB).2.2.2; omega
          have hOX : O ≠ X := by have := (unhide BB).1; omega
          clear HAD K6 R6 KD KGD KW KG hFd hXX hd1 hd2 HP1 HP0 HX HXL BB m0 m1 m2 m3 m4 m5 A1 C1
          go_wp2
          go_roundw
          case rel => exact ⟨j + 1, by simp, hlt, F4, K7, G7⟩
          case measure => simp [intOf]; omega
    · have hjn : j = n := by omega
      subst hjn
      have O0 := (unhide kg).cellOut (a := ⟨O, 0, none⟩) (by dsimp only; omega) o0
      have O1 := (unhide kg).cellOut (a := ⟨O, 1, none⟩) (by dsimp only; omega) o1
      have Q0 := (unhide kg).cellOut (a := ⟨w.heap.size + 1, 0, none⟩) (by dsimp only; omega) q0'
      have Q1 := (unhide kg).cellOut (a := ⟨w.heap.size + 1, 1, none⟩) (by dsimp only; omega) q1'
      have Qf0 := (unhide kg).looseOut (a := ⟨w.heap.size + 1, 0, none⟩) (by dsimp only; omega) (World.block_lt_of_cell? _ _ q0') f0'
      have Qf1 := (unhide kg).looseOut (a := ⟨w.heap.size + 1, 1, none⟩) (by dsimp only; omega) (World.block_lt_of_cell? _ _ q1') f1'
      have DD := (unhide hF).done (unhide HPN) (by unfold maxLen; omega)
      have ks : Kept (w.heap.size + 1) (w.heap.size + 2) wr ((wr.setCell ⟨w.heap.size + 1, 0, none⟩ (.int .i64 (k : Int))).setCell ⟨w.heap.size + 1, 1, none⟩ (.slice (some ⟨g, 0, none⟩) j j)) := ((Kept.refl _ _ _).setCell (p := ⟨w.heap.size + 1, 0, none⟩) (Nat.le_refl _) (Nat.lt_succ_self _) _).setCell (p := ⟨w.heap.size + 1, 1, none⟩) (Nat.le_refl _) (Nat.lt_succ_self _) _
      have hsz : ((wr.setCell ⟨w.heap.size + 1, 0, none⟩ (.int .i64 (k : Int))).setCell ⟨w.heap.size + 1, 1, none⟩ (.slice (some ⟨g, 0, none⟩) j j)).heap.size = wr.heap.size := by rw [size_set, size_set]
      have R7 := hide ((DD.kept ks (by omega)).wider (lo' := w.heap.size) (hi' := ((wr.setCell ⟨w.heap.size + 1, 0, none⟩ (.int .i64 (k : Int))).setCell ⟨w.heap.size + 1, 1, none⟩ (.slice (some ⟨g, 0, none⟩) j j)).heap.size) (by omega) (by omega))
      have K7 := hide ((unhide kw).wide ks (by omega))
      have G0 := cell_off _ _ _ 1 (.slice (some ⟨g, 0, none⟩) j j) _ (cell_on _ _ _ (.int .i64 (k : Int)) _ Q0) (show (0 : Nat) ≠ 1 by omega)
      have G1 := cell_on _ _ _ (.slice (some ⟨g, 0, none⟩) j j) _ (cell_off _ _ _ 0 (.int .i64 (k : Int)) _ Q1 (show (1 : Nat) ≠ 0 by omega))
      clear hF kg kw DD ks hsz hgo hgw
      go_wp2
      exact bodyPost_ret (v := .agg #[.int .i64 (k : Int), .slice (some ⟨g, 0, none⟩) j j]) (by simp [results, Tryz.results69, go_sem, G0, G1]) rfl ⟨_, rfl, unhide R7, unhide K7⟩

theorem imok_n {n : Int} {ds : List DE} {m : Nat} (h : imokB n ds m = true) : 1 ≤ n ∧ n ≤ 4 := ⟨(imok_parts h).1, (imok_parts h).2.1⟩

set_option maxHeartbeats 8000000 in
theorem ivMatMid_spec {lo hi m : Nat} {v : Value} {ds : List DE} (n : Int) (w : World) (hw : WfD ds) (r : Ivs lo hi w v ds m) :
    Calls Tryz.prog 29 #[.agg #[.int .i64 n, v]] w fun e w' => ∃ v', e = .returned (.tuple #[.agg #[.int .i64 (twN (imokB n ds m) (midV ds) (-3001) n), v'], .bool (twB (imokB n ds m) (midV ds) (-3001) n)]) ∧ DysO w.heap.size w'.heap.size w' v' (twL (imokB n ds m) (midV ds) (-3001) n) ∧ Kept 0 0 w w' := by
  obtain ⟨W, hW⟩ : ∃ W, W = (w.alloc (.cells #[.int .i64 n, v] 28)).alloc (.cells #[.int .i64 0, .slice none 0 0] 59) := ⟨_, rfl⟩
  have k0 : Kept 0 0 w W := by rw [hW]; exact ((Kept.refl 0 0 w).alloc _).alloc _
  have c0 : W.cell? ⟨w.heap.size, 0, none⟩ = some (.int .i64 n) := by rw [hW]; exact old_cell _ (new_cell2 _ _ _ _ _ _ (by simp) rfl)
  have c1 : W.cell? ⟨w.heap.size, 1, none⟩ = some v := by rw [hW]; exact old_cell _ (new_cell2 _ _ _ _ _ _ (by simp) rfl)
  have q0 : W.cell? ⟨w.heap.size + 1, 0, none⟩ = some (.int .i64 0) := by rw [hW]; exact new_cell2 _ _ _ _ _ _ (by simp) rfl
  have q1 : W.cell? ⟨w.heap.size + 1, 1, none⟩ = some (.slice none 0 0) := by rw [hW]; exact new_cell2 _ _ _ _ _ _ (by simp) rfl
  have f0 : W.frozen? ⟨w.heap.size + 1, 0, none⟩ = false := by rw [hW]; exact new_loose2 _ _ _ _ _ (by simp)
  have f1 : W.frozen? ⟨w.heap.size + 1, 1, none⟩ = false := by rw [hW]; exact new_loose2 _ _ _ _ _ (by simp)
  have sW : W.heap.size = w.heap.size + 2 := by rw [hW]; simp
  have r0 := r.kept k0 (by omega)
  have ho := ivMatOk_spec n W hw r0
  obtain ⟨a, c, rfl, -, -⟩ := r.form
  rw [hW] at ho
  clear r
  go_enter Tryz.func29, Tryz.ntmps29
  go_wp2_with fail
  rw [← hW] at ho ⊢
  clear hW
  refine ho.mono ?_
  rintro e w1 ⟨rfl, k1⟩
  replace f0 := k1.loose0 (World.block_lt_of_cell? _ _ q0) f0
  replace f1 := k1.loose0 (World.block_lt_of_cell? _ _ q1) f1
  replace c0 := k1.cell0 c0
  replace c1 := k1.cell0 c1
  replace q0 := k1.cell0 q0
  replace q1 := k1.cell0 q1
  replace r0 := r0.kept k1 (by omega)
  have K1 := hide (k0.trans k1)
  have z1 := k1.size
  clear ho k0 k1
  cases hk : imokB n ds m
  · obtain ⟨h1, h2, h3⟩ := tw_no (midV ds) (-3001) n
    have HB := hide (And.intro h1 (And.intro h2 h3))
    have HKF := hide hk
    have K7 := hide (((unhide K1).setNew (p := ⟨w.heap.size + 1, 0, none⟩) (by dsimp only; omega) (.int .i64 0)).setNew (p := ⟨w.heap.size + 1, 1, none⟩) (by dsimp only; omega) (.slice none 0 0))
    clear r0 K1 hk h1 h2 h3
    go_wp2
    exact bodyPost_ret (v := .tuple #[.agg #[.int .i64 0, .slice none 0 0], .bool false]) (by simp [results, Tryz.results29, go_sem, q0, q1]) rfl ⟨.slice none 0 0, by rw [unhide HKF, (unhide HB).1, (unhide HB).2.2], by rw [unhide HKF, (unhide HB).2.1]; exact DysO.void _ _ _, unhide K7⟩
  obtain ⟨u1, u2, u3, U⟩ := imok_parts hk
  obtain ⟨k, rfl⟩ := Int.eq_ofNat_of_zero_le (show 0 ≤ n by omega)
  have hlen : m = k * k := by rw [← Int.natCast_mul] at u3; omega
  have h16 : k * k ≤ 4 * 4 := Nat.mul_le_mul (by omega) (by omega)
  have HKT := hide hk
  have HVL : ∀ p, p < m → (midV ds p).natAbs < 2 ^ AA := fun p hp => midV_lt (U _ (by omega)) (U _ (by omega))
  have HL := hide hlen
  have hop := mid8_spec w1 (show 0 < k by omega) (show k ≤ 4 by omega) hlen (fun q hq => U q hq) r0
  obtain ⟨PL, hPL⟩ : ∃ PL, PL = (List.range m).map fun p => nE ((midV ds) p) (-3001) := ⟨_, rfl⟩
  have HPN := hide (show PL.length ≤ 100 by rw [hPL]; simp; have := Nat.mul_le_mul (show k ≤ 4 by omega) (show k ≤ 4 by omega); omega)
  have HWF : Hid (WfD PL) := fun i hi => by
    have hi2 : i < m := by rw [hPL] at hi; simpa using hi
    rw [hPL, map_at _ _ _ hi2]
    exact dex_range _ _ (by decide) (by decide) (HVL i hi2) (by unfold AA; decide)
  have HWN : Hid (AllWN PL) := fun i hi => by
    have hi2 : i < m := by rw [hPL] at hi; simpa using hi
    rw [hPL, map_at _ _ _ hi2]
    exact ⟨nE_wn _, Nat.le_trans (dlm_lenV (HVL i hi2) (show AA ≤ 16 * 2500 by decide)) (by decide)⟩
  obtain ⟨t1, t2, t3⟩ := tw_fit (k := k) (V := midV ds) (L := -3001) (by omega) (by omega)
  rw [← hlen, ← hPL] at t1 t2 t3
  rw [← hPL] at hop
  obtain ⟨X1, hX1⟩ : ∃ x, x = twN true (midV ds) (-3001) (k : Int) := ⟨_, rfl⟩
  obtain ⟨X2, hX2⟩ : ∃ x, x = twB true (midV ds) (-3001) (k : Int) := ⟨_, rfl⟩
  obtain ⟨X3, hX3⟩ : ∃ x, x = twL true (midV ds) (-3001) (k : Int) := ⟨_, rfl⟩
  rw [← hX2] at t1
  rw [← hX1] at t2
  rw [← hX3] at t3
  have HX1 := hide hX1
  have HX2 := hide hX2
  have HX3 := hide hX3
  have T1 := hide t1
  have T2 := hide t2
  have T3 := hide t3
  clear hPL HVL hX1 hX2 hX3 t1 t2 t3 u1 u2 u3 U hlen hk r0 hw h16 HL
  go_wp2_with fail
  refine hop.mono ?_
  rintro e w3 ⟨v3, rfl, r3, k3⟩
  have hft := fits8_spec (k : Int) w3 (unhide HPN) (unhide HWF) (unhide HWN) r3.read
  rw [unhide T1, unhide T2, unhide T3] at hft
  obtain ⟨a3, d3, hv3⟩ := r3.form'
  subst hv3
  replace f0 := k3.loose0 (World.block_lt_of_cell? _ _ q0) f0
  replace f1 := k3.loose0 (World.block_lt_of_cell? _ _ q1) f1
  replace q0 := k3.cell0 q0
  replace q1 := k3.cell0 q1
  have K3 := hide ((unhide K1).trans k3)
  have z3 := k3.size
  clear hop r3 k3 K1 c0 c1
  go_wp2_with fail
  refine hft.mono ?_
  rintro e w5 ⟨v5, rfl, r5, k5⟩
  obtain ⟨a5, d5, hv5⟩ := r5.form'
  subst hv5
  replace f0 := k5.loose0 (World.block_lt_of_cell? _ _ q0) f0
  replace f1 := k5.loose0 (World.block_lt_of_cell? _ _ q1) f1
  replace q0 := k5.cell0 q0
  replace q1 := k5.cell0 q1
  have z5 := k5.size
  have K7 := hide ((((unhide K3).trans k5).setNew (p := ⟨w.heap.size + 1, 0, none⟩) (by dsimp only; omega) (.int .i64 X1)).setNew (p := ⟨w.heap.size + 1, 1, none⟩) (by dsimp only; omega) (.slice a5 X3.length d5))
  have ks : Kept (w.heap.size + 1) (w.heap.size + 2) w5 ((w5.setCell ⟨w.heap.size + 1, 0, none⟩ (.int .i64 X1)).setCell ⟨w.heap.size + 1, 1, none⟩ (.slice a5 X3.length d5)) :=
    ((Kept.refl _ _ _).setCell (p := ⟨w.heap.size + 1, 0, none⟩) (Nat.le_refl _) (Nat.lt_succ_self _) _).setCell (p := ⟨w.heap.size + 1, 1, none⟩) (Nat.le_refl _) (Nat.lt_succ_self _) _
  have hsz : ((w5.setCell ⟨w.heap.size + 1, 0, none⟩ (.int .i64 X1)).setCell ⟨w.heap.size + 1, 1, none⟩ (.slice a5 X3.length d5)).heap.size = w5.heap.size := by rw [size_set, size_set]
  have R7 := hide ((r5.kept ks (by omega)).wider (lo' := w.heap.size) (hi' := ((w5.setCell ⟨w.heap.size + 1, 0, none⟩ (.int .i64 X1)).setCell ⟨w.heap.size + 1, 1, none⟩ (.slice a5 X3.length d5)).heap.size) (by omega) (by omega))
  clear hft r5 k5 ks hsz K3
  go_wp2
  exact bodyPost_ret (v := .tuple #[.agg #[.int .i64 X1, .slice a5 X3.length d5], .bool X2]) (by simp [results, Tryz.results29, go_sem, q0, q1]) rfl ⟨.slice a5 X3.length d5, by rw [unhide HKT, unhide HX1, unhide HX2], by rw [unhide HKT]; show DysO _ _ _ _ (twL true (midV ds) (-3001) (k : Int)); rw [← unhide HX3]; exact unhide R7, unhide K7⟩

end Go.Proofs.YthahoabkehcgbaaGreatDoor

