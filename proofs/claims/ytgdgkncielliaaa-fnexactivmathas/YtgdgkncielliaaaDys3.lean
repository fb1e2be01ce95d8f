/-
  The laws' helpers for lists of dyadic numbers and for matrices: alike, copied, counted.
-/
import Derived.Test.YtgdgkncielliaaaDys2
namespace Go.Proofs.Ytgdgkncielliaaa
open Go.RowKit
set_option linter.unusedVariables false
set_option maxRecDepth 8000
set_option linter.unusedSimpArgs false

set_option maxHeartbeats 8000000 in
theorem eqDyS_same {l1 h1 l2 h2 : Nat} {v1 v2 : Value} {ds : List DE} (w : World) (r1 : Dys l1 h1 w v1 ds) (r2 : Dys l2 h2 w v2 ds) :
    Calls Try.prog 24 #[v1, v2] w fun e w' => e = .returned (.bool true) ∧ Kept 0 0 w w' := by
  obtain ⟨a1, d1, rfl, hc1, hc2⟩ := r1.form
  obtain ⟨a2, d2, rfl, -, -⟩ := r2.form
  obtain ⟨n, hnn⟩ : ∃ n, n = ds.length := ⟨_, rfl⟩
  have hm : ds.length ≤ 9223372036854775807 := by unfold maxLen at hc2; omega
  rw [← hnn] at r1 r2 ⊢ hm
  have HN := hide hnn
  have R1 := hide r1
  have R2 := hide r2
  clear r1 r2 hnn hc1 hc2
  go_enter Try.func24, Try.ntmps24
  go_wp2
  go_loopw [5] (fun s5 wx => ∃ j : Nat, s5 = .int .i64 j ∧ j ≤ n ∧ Kept 0 0 w wx) (fun s5 _ => n - (intOf s5).toNat)
  case atStart => exact ⟨0, rfl, Nat.zero_le _, Kept.refl _ _ _⟩
  case round =>
    obtain ⟨j, rfl, hj, k⟩ := hrel
    by_cases hlt : j < n
    · have kd := k.drew
      obtain ⟨g1, o1, n1, rfl, -, -, -, b1, k1, c10, c11, c12, hn1, rr1⟩ := ((unhide R1).kept kd (by omega)).at (i := j) (by rw [← unhide HN]; exact hlt)
      obtain ⟨g2, o2, n2, rfl, -, -, -, b2, k2, c20, c21, c22, hn2, rr2⟩ := ((unhide R2).kept kd (by omega)).at (i := j) (by rw [← unhide HN]; exact hlt)
      obtain ⟨s0, hs0'⟩ : ∃ q, q = (ds.getD j de0).1 := ⟨_, rfl⟩
      obtain ⟨y0, hy0⟩ : ∃ q, q = (ds.getD j de0).2.2 := ⟨_, rfl⟩
      obtain ⟨z0, hz0⟩ : ∃ q, q = (ds.getD j de0).2.1 := ⟨_, rfl⟩
      rw [← hs0'] at c10 c20
      rw [← hy0] at c12 c22
      rw [← hz0] at hn1 hn2 rr1 rr2
      clear hs0' hy0 hz0 hn1 hn2
      go_wp2_with fail
      refine wp_region_held_drew (S := (fun w' => w'.cell? ⟨g1, o1 + j * 3, none⟩ = some (.bool s0) ∧ w'.cell? ⟨g1, o1 + j * 3 + 1, none⟩ = some (.slice b1 n1 k1) ∧ w'.cell? ⟨g1, o1 + j * 3 + 2, none⟩ = some (.int .i64 y0) ∧ w'.cell? ⟨g2, o2 + j * 3, none⟩ = some (.bool s0) ∧ w'.cell? ⟨g2, o2 + j * 3 + 1, none⟩ = some (.slice b2 n2 k2) ∧ w'.cell? ⟨g2, o2 + j * 3 + 2, none⟩ = some (.int .i64 y0))) (by kernel_rfl) ?_ (fun hHeld => ?_)
      · exact ⟨c10, c11, c12, c20, c21, c22⟩
      refine wpAnyH_take (i := 0) (oi := _) (v := .slice (some ⟨g1, o1, none⟩) n d1) rfl (by kernel_rfl) (by kernel_rfl) (by kernel_rfl) (fun _ _ _ h => h) (Or.inl ⟨by rfl, ?_⟩) hHeld ?_
      · intro wq hSw
        try dsimp only at hSw
        go_simp
      try simp only [Act.put, List.getElem_toArray, List.getElem_cons_succ, List.getElem_cons_zero, List.setIfInBounds_toArray, List.set_cons_zero, List.set_cons_succ]
      refine wpAnyH_take (i := 1) (oi := _) (v := .int .i64 (j : Int)) rfl (by kernel_rfl) (by kernel_rfl) (by kernel_rfl) (fun _ _ _ h => h) (Or.inl ⟨by rfl, ?_⟩) hHeld ?_
      · intro wq hSw
        try dsimp only at hSw
        go_simp
      try simp only [Act.put, List.getElem_toArray, List.getElem_cons_succ, List.getElem_cons_zero, List.setIfInBounds_toArray, List.set_cons_zero, List.set_cons_succ]
      refine wpAnyH_take (i := 2) (oi := _) (v := .pointer (some ⟨g1, o1 + j * 3, none⟩)) rfl (by kernel_rfl) (by kernel_rfl) (by kernel_rfl) (fun _ _ _ h => h) (Or.inl ⟨by rfl, ?_⟩) hHeld ?_
      · intro wq hSw
        try dsimp only at hSw
        go_simp
      try simp only [Act.put, List.getElem_toArray, List.getElem_cons_succ, List.getElem_cons_zero, List.setIfInBounds_toArray, List.set_cons_zero, List.set_cons_succ]
      refine wpAnyH_take (i := 3) (oi := _) (v := .agg #[.bool s0, .slice b1 n1 k1, .int .i64 y0]) rfl (by kernel_rfl) (by kernel_rfl) (by kernel_rfl) (fun _ _ _ h => h) (Or.inl ⟨by rfl, ?_⟩) hHeld ?_
      · intro wq hSw
        try dsimp only at hSw
        go_simp
      try simp only [Act.put, List.getElem_toArray, List.getElem_cons_succ, List.getElem_cons_zero, List.setIfInBounds_toArray, List.set_cons_zero, List.set_cons_succ]
      refine wpAnyH_take (i := 4) (oi := _) (v := .slice (some ⟨g2, o2, none⟩) n d2) rfl (by kernel_rfl) (by kernel_rfl) (by kernel_rfl) (fun _ _ _ h => h) (Or.inl ⟨by rfl, ?_⟩) hHeld ?_
      · intro wq hSw
        try dsimp only at hSw
        go_simp
      try simp only [Act.put, List.getElem_toArray, List.getElem_cons_succ, List.getElem_cons_zero, List.setIfInBounds_toArray, List.set_cons_zero, List.set_cons_succ]
      refine wpAnyH_take (i := 5) (oi := _) (v := .int .i64 (j : Int)) rfl (by kernel_rfl) (by kernel_rfl) (by kernel_rfl) (fun _ _ _ h => h) (Or.inl ⟨by rfl, ?_⟩) hHeld ?_
      · intro wq hSw
        try dsimp only at hSw
        go_simp
      try simp only [Act.put, List.getElem_toArray, List.getElem_cons_succ, List.getElem_cons_zero, List.setIfInBounds_toArray, List.set_cons_zero, List.set_cons_succ]
      refine wpAnyH_take (i := 6) (oi := _) (v := .pointer (some ⟨g2, o2 + j * 3, none⟩)) rfl (by kernel_rfl) (by kernel_rfl) (by kernel_rfl) (fun _ _ _ h => h) (Or.inl ⟨by rfl, ?_⟩) hHeld ?_
      · intro wq hSw
        try dsimp only at hSw
        go_simp
      try simp only [Act.put, List.getElem_toArray, List.getElem_cons_succ, List.getElem_cons_zero, List.setIfInBounds_toArray, List.set_cons_zero, List.set_cons_succ]
      refine wpAnyH_take (i := 7) (oi := _) (v := .agg #[.bool s0, .slice b2 n2 k2, .int .i64 y0]) rfl (by kernel_rfl) (by kernel_rfl) (by kernel_rfl) (fun _ _ _ h => h) (Or.inl ⟨by rfl, ?_⟩) hHeld ?_
      · intro wq hSw
        try dsimp only at hSw
        go_simp
      try simp only [Act.put, List.getElem_toArray, List.getElem_cons_succ, List.getElem_cons_zero, List.setIfInBounds_toArray, List.set_cons_zero, List.set_cons_succ]
      refine wpAnyH_ready (rs := [8]) (by kernel_rfl) (by simp) ?_
      refine AllReadyH.cons rfl (fun KK hK => ?_) AllReadyH.nil
      simp only [List.getElem_toArray, List.getElem_cons_succ, List.getElem_cons_zero]
      rw [if_pos (by rfl)]
      refine wps2 40 (.tmp 20) (.tmp 24) _ rfl in_eqD (.agg #[.bool s0, .slice b1 n1 k1, .int .i64 y0]) (.agg #[.bool s0, .slice b2 n2 k2, .int .i64 y0]) rfl rfl (eqDy_same s0 y0 _ rr1 rr2) ?_
      rintro e w3 ⟨rfl, k3⟩
      refine ⟨_, rfl, ?_⟩
      replace c10 := k3.cell0 c10
      replace c11 := k3.cell0 c11
      replace c12 := k3.cell0 c12
      replace c20 := k3.cell0 c20
      replace c21 := k3.cell0 c21
      replace c22 := k3.cell0 c22
      have K3 := hide (kd.trans k3)
      clear k3 rr1 rr2 k kd
      clear hHeld
      refine hK.out _ _ ?_ (fun hHeld => ?_)
      · exact ⟨c10, c11, c12, c20, c21, c22⟩
      clear hK KK
      try simp only [Act.put, List.getElem_toArray, List.getElem_cons_succ, List.getElem_cons_zero, List.setIfInBounds_toArray, List.set_cons_zero, List.set_cons_succ]
      refine wpAnyH_take (i := 9) (oi := _) (v := .bool false) rfl (by kernel_rfl) (by kernel_rfl) (by kernel_rfl) (fun _ _ _ h => h) (Or.inl ⟨by rfl, ?_⟩) hHeld ?_
      · intro wq hSw
        try dsimp only at hSw
        go_simp
      try simp only [Act.put, List.getElem_toArray, List.getElem_cons_succ, List.getElem_cons_zero, List.setIfInBounds_toArray, List.set_cons_zero, List.set_cons_succ]
      refine wpAnyH_done (by kernel_rfl) ?_ _
      clear hHeld c10 c11 c12 c20 c21 c22
      go_wp2
      go_roundw
      case rel => exact ⟨j + 1, by simp, hlt, unhide K3⟩
      case measure => simp [intOf]; omega
    · have hjn : j = n := by omega
      subst hjn
      go_wp2
      go_ret
      exact ⟨rfl, k⟩

set_option maxHeartbeats 2000000 in
theorem szMat_any {lo hi : Nat} {v : Value} {ds : List DE} (m : Int) (w : World) (s : Int) (hs0 : 0 ≤ s) (hs1 : s ≤ 1048576) (r : Dys lo hi w v ds) :
    Calls Try.prog 5 #[.agg #[.int .i64 m, v], .int .i64 s] w fun e w' => e = .returned (.int .i64 (if szT ds ≤ s then s - szT ds else -1)) ∧ Kept 0 0 w w' := by
  have k0 := (Kept.refl 0 0 w).alloc (.cells #[.int .i64 m, v] 27)
  have r0 := r.kept k0 (by omega)
  have c1 : (w.alloc (.cells #[.int .i64 m, v] 27)).cell? ⟨w.heap.size, 1, none⟩ = some v := new_cell2 _ _ _ _ _ _ rfl rfl
  obtain ⟨a, c, rfl, -, -⟩ := r.form
  clear r
  obtain ⟨A, hA⟩ : ∃ A : Int, A = if szT ds ≤ s then s - szT ds else -1 := ⟨_, rfl⟩
  have hsz := szDyS_any _ s hs0 hs1 r0
  rw [← hA] at hsz ⊢
  have hA' : A < 0 → A = -1 := by intro h; rw [hA] at h ⊢; split at h <;> first | omega | rfl
  have HA := hide hA'
  clear hA hA'
  go_enter Try.func5, Try.ntmps5
  go_wp2_with fail
  refine hsz.mono ?_
  rintro e w1 ⟨rfl, k1⟩
  have K1 := hide (k0.trans k1)
  clear hsz k0 k1 r0
  by_cases h : A < 0
  · go_wp2
    go_ret
    exact ⟨by rw [unhide HA h]; rfl, unhide K1⟩
  · go_wp2
    go_ret
    exact ⟨rfl, unhide K1⟩

set_option maxHeartbeats 2000000 in
theorem eqMat_same {l1 h1 l2 h2 : Nat} {v1 v2 : Value} {ds : List DE} (m : Int) (w : World) (r1 : Dys l1 h1 w v1 ds) (r2 : Dys l2 h2 w v2 ds) :
    Calls Try.prog 11 #[.agg #[.int .i64 m, v1], .agg #[.int .i64 m, v2]] w fun e w' => e = .returned (.bool true) ∧ Kept 0 0 w w' := by
  have k0 := ((Kept.refl 0 0 w).alloc (.cells #[.int .i64 m, v1] 37)).alloc (.cells #[.int .i64 m, v2] 37)
  have q1 := r1.kept k0 (by omega)
  have q2 := r2.kept k0 (by omega)
  have c10 : ((w.alloc (.cells #[.int .i64 m, v1] 37)).alloc (.cells #[.int .i64 m, v2] 37)).cell? ⟨w.heap.size, 0, none⟩ = some (.int .i64 m) := old_cell _ (new_cell2 _ _ _ _ _ _ (by simp) rfl)
  have c11 : ((w.alloc (.cells #[.int .i64 m, v1] 37)).alloc (.cells #[.int .i64 m, v2] 37)).cell? ⟨w.heap.size, 1, none⟩ = some v1 := old_cell _ (new_cell2 _ _ _ _ _ _ (by simp) rfl)
  have c20 : ((w.alloc (.cells #[.int .i64 m, v1] 37)).alloc (.cells #[.int .i64 m, v2] 37)).cell? ⟨w.heap.size + 1, 0, none⟩ = some (.int .i64 m) := new_cell2 _ _ _ _ _ _ (by simp) rfl
  have c21 : ((w.alloc (.cells #[.int .i64 m, v1] 37)).alloc (.cells #[.int .i64 m, v2] 37)).cell? ⟨w.heap.size + 1, 1, none⟩ = some v2 := new_cell2 _ _ _ _ _ _ (by simp) rfl
  obtain ⟨a1, d1, rfl, -, -⟩ := r1.form
  obtain ⟨a2, d2, rfl, -, -⟩ := r2.form
  clear r1 r2
  have he := eqDyS_same _ q1 q2
  go_enter Try.func11, Try.ntmps11
  go_wp2_with fail
  refine he.mono ?_
  rintro e w1 ⟨rfl, k1⟩
  have K1 := hide (k0.trans k1)
  clear he k0 k1 q1 q2
  go_wp2
  go_ret
  exact ⟨rfl, unhide K1⟩

set_option maxHeartbeats 4000000 in
theorem toMat_any {lo hi : Nat} {v : Value} {ds : List DE} (m : Int) (w : World) (hn : ds.length ≤ 1048576) (hl : ∀ i, i < ds.length → (ds.getD i de0).2.1.length ≤ 1099511627776) (r : Dys lo hi w v ds) :
    Calls Try.prog 8 #[.agg #[.int .i64 m, v]] w fun e w' => ∃ v', e = .returned (.agg #[.int .i64 m, v']) ∧ DysO w.heap.size w'.heap.size w' v' ds ∧ Kept 0 0 w w' := by
  obtain ⟨W, hW⟩ : ∃ W, W = ((w.alloc (.cells #[.int .i64 m, v] 27)).alloc (.cells #[.int .i64 0, .slice none 0 0] 37)).alloc (.cells #[.int .i64 m, .slice none 0 0] 37) := ⟨_, rfl⟩
  have k0 : Kept 0 0 w W := by rw [hW]; exact (((Kept.refl 0 0 w).alloc _).alloc _).alloc _
  have r0 := r.kept k0 (by omega)
  have A0 : W.cell? ⟨w.heap.size, 0, none⟩ = some (.int .i64 m) := by rw [hW]; exact old_cell _ (old_cell _ (new_cell2 _ _ _ _ _ _ (by simp) rfl))
  have A1 : W.cell? ⟨w.heap.size, 1, none⟩ = some v := by rw [hW]; exact old_cell _ (old_cell _ (new_cell2 _ _ _ _ _ _ (by simp) rfl))
  have R0 : W.cell? ⟨w.heap.size + 1, 0, none⟩ = some (.int .i64 0) := by rw [hW]; exact old_cell _ (new_cell2 _ _ _ _ _ _ (by simp) rfl)
  have R1 : W.cell? ⟨w.heap.size + 1, 1, none⟩ = some (.slice none 0 0) := by rw [hW]; exact old_cell _ (new_cell2 _ _ _ _ _ _ (by simp) rfl)
  have Rf0 : W.frozen? ⟨w.heap.size + 1, 0, none⟩ = false := by rw [hW]; exact ((Kept.refl 0 0 _).alloc _).loose0 (by simp) (new_loose2 _ _ _ _ _ (by simp))
  have Rf1 : W.frozen? ⟨w.heap.size + 1, 1, none⟩ = false := by rw [hW]; exact ((Kept.refl 0 0 _).alloc _).loose0 (by simp) (new_loose2 _ _ _ _ _ (by simp))
  have O0 : W.cell? ⟨w.heap.size + 1 + 1, 0, none⟩ = some (.int .i64 m) := by rw [hW]; exact new_cell2 _ _ _ _ _ _ (by simp) rfl
  have O1 : W.cell? ⟨w.heap.size + 1 + 1, 1, none⟩ = some (.slice none 0 0) := by rw [hW]; exact new_cell2 _ _ _ _ _ _ (by simp) rfl
  have Of0 : W.frozen? ⟨w.heap.size + 1 + 1, 0, none⟩ = false := by rw [hW]; exact new_loose2 _ _ _ _ _ (by simp)
  have Of1 : W.frozen? ⟨w.heap.size + 1 + 1, 1, none⟩ = false := by rw [hW]; exact new_loose2 _ _ _ _ _ (by simp)
  have s0 : W.heap.size = w.heap.size + 3 := by rw [hW]; simp
  obtain ⟨a, c, rfl, -, -⟩ := r.form
  clear r
  have ht := toDyS_any W hn hl r0
  have S0 := hide s0
  have K0 := hide k0
  rw [hW] at ht A0 A1 R0 R1 Rf0 Rf1 O0 O1 Of0 Of1
  clear hn hl r0 s0 k0
  go_enter Try.func8, Try.ntmps8
  go_wp2_with fail
  rw [← hW] at ht A0 A1 R0 R1 Rf0 Rf1 O0 O1 Of0 Of1 ⊢
  clear hW
  refine ht.mono ?_
  rintro e w1 ⟨v1, rfl, d1, k1⟩
  obtain ⟨a1, c1, hv1, -, -⟩ := d1.read.form
  subst hv1
  have R0' := k1.cell0 R0
  have R1' := k1.cell0 R1
  have O0' := k1.cell0 O0
  have O1' := k1.cell0 O1
  have Rf0' := k1.loose0 (World.block_lt_of_cell? _ _ R0) Rf0
  have Rf1' := k1.loose0 (World.block_lt_of_cell? _ _ R1) Rf1
  have Of0' := k1.loose0 (World.block_lt_of_cell? _ _ O0) Of0
  have Of1' := k1.loose0 (World.block_lt_of_cell? _ _ O1) Of1
  have s0 := unhide S0
  have kA : Kept (w.heap.size + 1 + 1) (w.heap.size + 1 + 1 + 1) w1 (w1.setCell ⟨w.heap.size + 1 + 1, 1, none⟩ (.slice a1 ds.length c1)) := (Kept.refl _ _ _).setCell (p := ⟨w.heap.size + 1 + 1, 1, none⟩) (Nat.le_refl _) (Nat.lt_succ_self _) _
  have kB : Kept (w.heap.size + 1) (w.heap.size + 1 + 1) (w1.setCell ⟨w.heap.size + 1 + 1, 1, none⟩ (.slice a1 ds.length c1)) (((w1.setCell ⟨w.heap.size + 1 + 1, 1, none⟩ (.slice a1 ds.length c1)).setCell ⟨w.heap.size + 1, 0, none⟩ (.int .i64 m)).setCell ⟨w.heap.size + 1, 1, none⟩ (.slice a1 ds.length c1)) := ((Kept.refl _ _ _).setCell (p := ⟨w.heap.size + 1, 0, none⟩) (Nat.le_refl _) (Nat.lt_succ_self _) _).setCell (p := ⟨w.heap.size + 1, 1, none⟩) (Nat.le_refl _) (Nat.lt_succ_self _) _
  have K2 := hide ((((unhide K0).trans k1).wide kA (by omega)).wide kB (by omega))
  have D2 := hide (((d1.kept kA (by omega)).kept kB (by omega)).wider (lo' := w.heap.size) (hi' := w1.heap.size) (by omega) (Nat.le_refl _))
  have hs2 : (((w1.setCell ⟨w.heap.size + 1 + 1, 1, none⟩ (.slice a1 ds.length c1)).setCell ⟨w.heap.size + 1, 0, none⟩ (.int .i64 m)).setCell ⟨w.heap.size + 1, 1, none⟩ (.slice a1 ds.length c1)).heap.size = w1.heap.size := by rw [size_set, size_set, size_set]
  have HS2 := hide hs2
  have E0 : (((w1.setCell ⟨w.heap.size + 1 + 1, 1, none⟩ (.slice a1 ds.length c1)).setCell ⟨w.heap.size + 1, 0, none⟩ (.int .i64 m)).setCell ⟨w.heap.size + 1, 1, none⟩ (.slice a1 ds.length c1)).cell? ⟨w.heap.size + 1, 0, none⟩ = some (.int .i64 m) :=
    cell_off _ _ _ _ _ _ (cell_on _ _ _ _ _ (cell_aside _ (by dsimp only; omega) R0')) (by omega)
  have E1 : (((w1.setCell ⟨w.heap.size + 1 + 1, 1, none⟩ (.slice a1 ds.length c1)).setCell ⟨w.heap.size + 1, 0, none⟩ (.int .i64 m)).setCell ⟨w.heap.size + 1, 1, none⟩ (.slice a1 ds.length c1)).cell? ⟨w.heap.size + 1, 1, none⟩ = some (.slice a1 ds.length c1) :=
    cell_on _ _ _ _ _ (cell_off _ _ _ _ _ _ (cell_aside _ (by dsimp only; omega) R1') (by omega))
  clear ht d1 k1 s0 kA kB hs2 R0 R1 O0 O1 Rf0 Rf1 Of0 Of1 A0 A1
  go_wp2
  exact bodyPost_ret (v := .agg #[.int .i64 m, .slice a1 ds.length c1]) (by simp [results, Try.results8, go_sem, E0, E1]) rfl ⟨_, rfl, by rw [unhide HS2]; exact unhide D2, unhide K2⟩

theorem in_toM : ∀ (w : World) (args : Array Value), (callFunc 8 args).run Try.prog w = .ok (.enter 8 args) w := enters Try.func8 (by decide) (fun h => by cases h)

theorem in_eqM : ∀ (w : World) (args : Array Value), (callFunc 11 args).run Try.prog w = .ok (.enter 11 args) w := enters Try.func11 (by decide) (fun h => by cases h)

end Go.Proofs.Ytgdgkncielliaaa
