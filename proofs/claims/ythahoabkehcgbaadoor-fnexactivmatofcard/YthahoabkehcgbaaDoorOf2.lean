/-
  IvMatOf of the model.
-/
import Derived.Test.YthahoabkehcgbaaDoorOf1
import Derived.Deep.DeepCutAuto
import Derived.Deep.RegionHeld3
namespace Go.Proofs.YthahoabkehcgbaaDoor
open Go.RowKit
set_option linter.unusedVariables false
set_option maxRecDepth 8000
set_option linter.unusedSimpArgs false

/-- One more interval, of one number twice. -/
theorem FillP.share {B g n j l hh : Nat} {ds : List DE} {w : World} {s : Bool} {u : Value} {y : Int} {z : List Int} (f : FillP B g (2 * n) ds (fun i => i < 2 * j) w) (hj : j < n) (r : Row .i64 false l hh w u z) (hr : hh ≤ B) (he : ds.getD (2 * j) de0 = (s, z, y)) (he' : ds.getD (2 * j + 1) de0 = (s, z, y)) :
    FillP B g (2 * n) ds (fun i => i < 2 * (j + 1)) ((((((w.setCell ⟨g, j * 6, none⟩ (.bool s)).setCell ⟨g, j * 6 + 1, none⟩ u).setCell ⟨g, j * 6 + 2, none⟩ (.int .i64 y)).setCell ⟨g, j * 6 + 3, none⟩ (.bool s)).setCell ⟨g, j * 6 + 4, none⟩ u).setCell ⟨g, j * 6 + 5, none⟩ (.int .i64 y)) := by
  have hl := f.lb
  have f1 := f.step (P' := fun i => i < 2 * j + 1) (j := 2 * j) (by omega) (Kept.refl 0 0 _) r (fun _ => .inr hr) he (fun i hi => by omega)
  have kk : Kept g (g + 1) w (((w.setCell ⟨g, 2 * j * 3, none⟩ (.bool s)).setCell ⟨g, 2 * j * 3 + 1, none⟩ u).setCell ⟨g, 2 * j * 3 + 2, none⟩ (.int .i64 y)) := (((Kept.refl g (g + 1) w).setCell (p := ⟨g, 2 * j * 3, none⟩) (Nat.le_refl _) (Nat.lt_succ_self _) _).setCell (p := ⟨g, 2 * j * 3 + 1, none⟩) (Nat.le_refl _) (Nat.lt_succ_self _) _).setCell (p := ⟨g, 2 * j * 3 + 2, none⟩) (Nat.le_refl _) (Nat.lt_succ_self _) _
  have q := r.kept kk (by omega)
  have f2 := f1.step (P' := fun i => i < 2 * (j + 1)) (j := 2 * j + 1) (by omega) (Kept.refl 0 0 _) q (fun _ => .inr hr) he' (fun i hi => by omega)
  rw [show (2 * j + 1) * 3 = j * 6 + 3 by omega, show 2 * j * 3 = j * 6 by omega] at f2
  exact f2
theorem ivsP_done {B g n : Nat} {ds : List DE} {w : World} (f : FillP B g (2 * n) ds (fun i => i < 2 * n) w) (hn : ds.length = 2 * n) (hm : n ≤ maxLen) : Ivs 0 w.heap.size w (.slice (some ⟨g, 0, none⟩) n n) ds n := by
  refine ⟨_, _, rfl, Nat.le_refl _, hm, hn, fun _ => ⟨g, 0, rfl, Nat.zero_le _, f.lt, f.lt, fun i hi => ?_⟩⟩
  obtain ⟨l, h, h1, u, c0, c1, c2, r⟩ := f.got i (by omega) (by omega)
  rw [Nat.zero_add]
  exact ⟨u, c0, c1, c2, r.tight.wider (Nat.zero_le _) (Nat.le_refl _)⟩

set_option maxHeartbeats 16000000 in
theorem of10_spec {k m lo hi : Nat} {v : Value} {ds : List DE} (w : World) (hk4 : k ≤ 4) (hmk : m = k * k) (hm : ds.length = m) (r : Dys lo hi w v ds) :
    Calls Tryd.prog 16 #[.agg #[.int .i64 (k : Int), v]] w fun e w' => ∃ v', e = .returned (.agg #[.int .i64 (k : Int), v']) ∧ Ivs 0 w'.heap.size w' v' (dbL ds m) m ∧ Kept 0 0 w w' := by
  obtain ⟨a, c, rfl, -, -⟩ := r.form
  rw [hm] at r ⊢
  obtain ⟨W, hW⟩ : ∃ W, W = (w.alloc (.cells #[.int .i64 (k : Int), .slice a m c] 33)).alloc (.cells #[.int .i64 0, .slice none 0 0] 28) := ⟨_, rfl⟩
  have k0 : Kept 0 0 w W := by rw [hW]; exact ((Kept.refl 0 0 w).alloc _).alloc _
  have c0 : W.cell? ⟨w.heap.size, 0, none⟩ = some (.int .i64 (k : Int)) := by rw [hW]; exact old_cell _ (new_cell2 _ _ _ _ _ _ (by simp) rfl)
  have c1 : W.cell? ⟨w.heap.size, 1, none⟩ = some (.slice a m c) := by rw [hW]; exact old_cell _ (new_cell2 _ _ _ _ _ _ (by simp) rfl)
  have q0 : W.cell? ⟨w.heap.size + 1, 0, none⟩ = some (.int .i64 0) := by rw [hW]; exact new_cell2 _ _ _ _ _ _ (by simp) rfl
  have q1 : W.cell? ⟨w.heap.size + 1, 1, none⟩ = some (.slice none 0 0) := by rw [hW]; exact new_cell2 _ _ _ _ _ _ (by simp) rfl
  have f0 : W.frozen? ⟨w.heap.size + 1, 0, none⟩ = false := by rw [hW]; exact new_loose2 _ _ _ _ _ (by simp)
  have f1 : W.frozen? ⟨w.heap.size + 1, 1, none⟩ = false := by rw [hW]; exact new_loose2 _ _ _ _ _ (by simp)
  have sW : W.heap.size = w.heap.size + 2 := by rw [hW]; simp
  obtain ⟨DL, hDL⟩ : ∃ DL, DL = dbL ds m := ⟨_, rfl⟩
  rw [← hDL]
  have h16 : m ≤ 4 * 4 := by rw [hmk]; exact Nat.mul_le_mul hk4 hk4
  have hn10 := new10_spec hk4 W DL
  rw [← hmk] at hn10
  have HLEN : Hid (DL.length = 2 * m) := by show _ = _; rw [hDL]; exact dbL_len _ _
  have HDL := hide hDL
  have RW := hide r
  have HDM := hide hm
  have SW := hide sW
  have K1 := hide k0
  rw [hW] at hn10
  clear r hmk hm hDL sW k0
  go_enter Tryd.func16, Tryd.ntmps16
  go_wp2_with fail
  refine hn10.mono ?_
  rw [← hW]
  rintro e w2 ⟨g, rfl, F0, hg, k2⟩
  clear hn10 hW
  obtain ⟨O, hO⟩ : ∃ O, O = w2.heap.size := ⟨_, rfl⟩
  have o0 : (w2.alloc (.cells #[.int .i64 (k : Int), .slice (some ⟨g, 0, none⟩) m m] 28)).cell? ⟨O, 0, none⟩ = some (.int .i64 (k : Int)) := new_cell2 _ _ _ _ _ _ hO rfl
  have o1 : (w2.alloc (.cells #[.int .i64 (k : Int), .slice (some ⟨g, 0, none⟩) m m] 28)).cell? ⟨O, 1, none⟩ = some (.slice (some ⟨g, 0, none⟩) m m) := new_cell2 _ _ _ _ _ _ hO rfl
  have k3 := (Kept.refl 0 0 w2).alloc (.cells #[.int .i64 (k : Int), .slice (some ⟨g, 0, none⟩) m m] 28)
  have hgO : g < O := by have := F0.lt; omega
  have kk := k2.trans k3
  have c1' := kk.cell0 c1
  have q0' := kk.cell0 q0
  have q1' := kk.cell0 q1
  have f0' := kk.loose0 (World.block_lt_of_cell? _ _ q0) f0
  have f1' := kk.loose0 (World.block_lt_of_cell? _ _ q1) f1
  have F1 := hide ((F0.kept k3).toP (B := w.heap.size) (ds' := DL) (P := fun i => i < 2 * 0) (by have := unhide SW; omega) (fun i _ h => by omega))
  have K2 := hide ((unhide K1).trans kk)
  have HGW : Hid (w.heap.size + 2 ≤ g) := by show _ ≤ _; have := unhide SW; omega
  have HGO := hide hgO
  clear F0 k2 k3 kk c0 c1 q0 q1 f0 f1 hg hgO K1
  go_wp2_with fail
  rw [← hO]
  generalize (w2.alloc (.cells #[.int .i64 (k : Int), .slice (some ⟨g, 0, none⟩) m m] 28)) = w3 at *
  clear hO
  go_loopw [4] (fun s4 wr => ∃ j : Nat, s4 = .int .i64 j ∧ j ≤ m ∧ Hid (FillP w.heap.size g (2 * m) DL (fun i => i < 2 * j) wr) ∧ Hid (Kept 0 0 w wr) ∧ Hid (Kept g (g + 1) w3 wr)) (fun s4 _ => m - (intOf s4).toNat)
  case atStart => exact ⟨0, rfl, Nat.zero_le _, F1, K2, Kept.refl _ _ _⟩
  case round =>
    clear F1 K2
    obtain ⟨j, rfl, hj, hF, kw, kg⟩ := hrel
    have hwj : IntKind.i64.wrap ((j : Int) + 1) = ((j + 1 : Nat) : Int) := by rw [IntKind.wrap_i64]; omega
    have hgw := unhide HGW
    have hgo := unhide HGO
    have C1 := (unhide kg).cellOut (a := ⟨w.heap.size, 1, none⟩) (by dsimp only; omega) c1'
    by_cases hlt : j < m
    · have kgd := (unhide kg).drew
      have kd := (unhide kw).drew
      have O1 := kgd.cellOut (a := ⟨O, 1, none⟩) (by dsimp only; omega) o1
      have A1 := kgd.cellOut (a := ⟨w.heap.size, 1, none⟩) (by dsimp only; omega) c1'
      have rw0 := unhide RW
      rw [← unhide HDM] at rw0
      obtain ⟨gA, off, ln, rfl, -, -, hgA, b, kb, m0, m1, m2, hln, rr⟩ := rw0.at (i := j) (by rw [unhide HDM]; exact hlt)
      have HP0 : DL.getD (2 * j) de0 = ds.getD j de0 := by rw [unhide HDL]; exact dbL_lo hlt
      have HP1 : DL.getD (2 * j + 1) de0 = ds.getD j de0 := by rw [unhide HDL]; exact dbL_hi hlt
      obtain ⟨⟨s0, z0, y0⟩, hE0⟩ : ∃ q, q = ds.getD j de0 := ⟨_, rfl⟩
      rw [← hE0] at m0 m2 rr HP0 HP1
      dsimp only at m0 m2 rr
      replace m0 := kd.cell0 m0
      replace m1 := kd.cell0 m1
      replace m2 := kd.cell0 m2
      have HF := hide ((unhide hF).kept ((Kept.refl 0 0 wr).drew))
      have E0 := hide HP0
      have E1 := hide HP1
      have RR := hide (rr.tight.kept kd (by omega))
      have KD := hide kd
      have KGD := hide kgd
      clear hln rr hE0 kd kgd hF kw kg HP0 HP1 rw0
      go_wp2_with fail
      refine wp_region_held_drew (S := (fun w' => w'.cell? ⟨O, 1, none⟩ = some (.slice (some ⟨g, 0, none⟩) m m) ∧ w'.cell? ⟨w.heap.size, 1, none⟩ = some (.slice (some ⟨gA, off, none⟩) m c) ∧ w'.cell? ⟨gA, off + j * 3, none⟩ = some (.bool s0) ∧ w'.cell? ⟨gA, off + j * 3 + 1, none⟩ = some (.slice b ln kb) ∧ w'.cell? ⟨gA, off + j * 3 + 2, none⟩ = some (.int .i64 y0))) (by kernel_rfl) ?_ (fun hHeld => ?_)
      · exact ⟨O1, A1, m0, m1, m2⟩
      generalize wr.drew = wd at *
      refine wpAnyH_take (i := 0) (oi := _) (v := .pointer (some ⟨O, 1, none⟩)) rfl (by kernel_rfl) (by kernel_rfl) (by kernel_rfl) (fun _ _ _ h => h) (Or.inl ⟨by rfl, ?_⟩) hHeld ?_
      · intro wq hSw
        try dsimp only at hSw
        go_simp
      try simp only [Act.put, List.getElem_toArray, List.getElem_cons_succ, List.getElem_cons_zero, List.setIfInBounds_toArray, List.set_cons_zero, List.set_cons_succ]
      refine wpAnyH_take (i := 1) (oi := _) (v := .slice (some ⟨g, 0, none⟩) m m) rfl (by kernel_rfl) (by kernel_rfl) (by kernel_rfl) (fun _ _ _ h => h) (Or.inl ⟨by rfl, ?_⟩) hHeld ?_
      · intro wq hSw
        try dsimp only at hSw
        go_simp
      try simp only [Act.put, List.getElem_toArray, List.getElem_cons_succ, List.getElem_cons_zero, List.setIfInBounds_toArray, List.set_cons_zero, List.set_cons_succ]
      refine wpAnyH_take (i := 2) (oi := _) (v := .int .i64 (j : Int)) rfl (by kernel_rfl) (by kernel_rfl) (by kernel_rfl) (fun _ _ _ h => h) (Or.inl ⟨by rfl, ?_⟩) hHeld ?_
      · intro wq hSw
        try dsimp only at hSw
        go_simp
      try simp only [Act.put, List.getElem_toArray, List.getElem_cons_succ, List.getElem_cons_zero, List.setIfInBounds_toArray, List.set_cons_zero, List.set_cons_succ]
      refine wpAnyH_take (i := 3) (oi := _) (v := .pointer (some ⟨w.heap.size, 1, none⟩)) rfl (by kernel_rfl) (by kernel_rfl) (by kernel_rfl) (fun _ _ _ h => h) (Or.inl ⟨by rfl, ?_⟩) hHeld ?_
      · intro wq hSw
        try dsimp only at hSw
        go_simp
      try simp only [Act.put, List.getElem_toArray, List.getElem_cons_succ, List.getElem_cons_zero, List.setIfInBounds_toArray, List.set_cons_zero, List.set_cons_succ]
      refine wpAnyH_take (i := 4) (oi := _) (v := .slice (some ⟨gA, off, none⟩) m c) rfl (by kernel_rfl) (by kernel_rfl) (by kernel_rfl) (fun _ _ _ h => h) (Or.inl ⟨by rfl, ?_⟩) hHeld ?_
      · intro wq hSw
        try dsimp only at hSw
        go_simp
      try simp only [Act.put, List.getElem_toArray, List.getElem_cons_succ, List.getElem_cons_zero, List.setIfInBounds_toArray, List.set_cons_zero, List.set_cons_succ]
      refine wpAnyH_take (i := 5) (oi := _) (v := .int .i64 (j : Int)) rfl (by kernel_rfl) (by kernel_rfl) (by kernel_rfl) (fun _ _ _ h => h) (Or.inl ⟨by rfl, ?_⟩) hHeld ?_
      · intro wq hSw
        try dsimp only at hSw
        go_simp
      try simp only [Act.put, List.getElem_toArray, List.getElem_cons_succ, List.getElem_cons_zero, List.setIfInBounds_toArray, List.set_cons_zero, List.set_cons_succ]
      refine wpAnyH_take (i := 6) (oi := _) (v := .pointer (some ⟨gA, off + j * 3, none⟩)) rfl (by kernel_rfl) (by kernel_rfl) (by kernel_rfl) (fun _ _ _ h => h) (Or.inl ⟨by rfl, ?_⟩) hHeld ?_
      · intro wq hSw
        try dsimp only at hSw
        go_simp
      try simp only [Act.put, List.getElem_toArray, List.getElem_cons_succ, List.getElem_cons_zero, List.setIfInBounds_toArray, List.set_cons_zero, List.set_cons_succ]
      refine wpAnyH_take (i := 7) (oi := _) (v := .agg #[.bool s0, .slice b ln kb, .int .i64 y0]) rfl (by kernel_rfl) (by kernel_rfl) (by kernel_rfl) (fun _ _ _ h => h) (Or.inl ⟨by rfl, ?_⟩) hHeld ?_
      · intro wq hSw
        try dsimp only at hSw
        go_simp
      try simp only [Act.put, List.getElem_toArray, List.getElem_cons_succ, List.getElem_cons_zero, List.setIfInBounds_toArray, List.set_cons_zero, List.set_cons_succ]
      refine wpAnyH_take (i := 8) (oi := _) (v := .pointer (some ⟨w.heap.size, 1, none⟩)) rfl (by kernel_rfl) (by kernel_rfl) (by kernel_rfl) (fun _ _ _ h => h) (Or.inl ⟨by rfl, ?_⟩) hHeld ?_
      · intro wq hSw
        try dsimp only at hSw
        go_simp
      try simp only [Act.put, List.getElem_toArray, List.getElem_cons_succ, List.getElem_cons_zero, List.setIfInBounds_toArray, List.set_cons_zero, List.set_cons_succ]
      refine wpAnyH_take (i := 9) (oi := _) (v := .slice (some ⟨gA, off, none⟩) m c) rfl (by kernel_rfl) (by kernel_rfl) (by kernel_rfl) (fun _ _ _ h => h) (Or.inl ⟨by rfl, ?_⟩) hHeld ?_
      · intro wq hSw
        try dsimp only at hSw
        go_simp
      try simp only [Act.put, List.getElem_toArray, List.getElem_cons_succ, List.getElem_cons_zero, List.setIfInBounds_toArray, List.set_cons_zero, List.set_cons_succ]
      refine wpAnyH_take (i := 10) (oi := _) (v := .int .i64 (j : Int)) rfl (by kernel_rfl) (by kernel_rfl) (by kernel_rfl) (fun _ _ _ h => h) (Or.inl ⟨by rfl, ?_⟩) hHeld ?_
      · intro wq hSw
        try dsimp only at hSw
        go_simp
      try simp only [Act.put, List.getElem_toArray, List.getElem_cons_succ, List.getElem_cons_zero, List.setIfInBounds_toArray, List.set_cons_zero, List.set_cons_succ]
      refine wpAnyH_take (i := 11) (oi := _) (v := .pointer (some ⟨gA, off + j * 3, none⟩)) rfl (by kernel_rfl) (by kernel_rfl) (by kernel_rfl) (fun _ _ _ h => h) (Or.inl ⟨by rfl, ?_⟩) hHeld ?_
      · intro wq hSw
        try dsimp only at hSw
        go_simp
      try simp only [Act.put, List.getElem_toArray, List.getElem_cons_succ, List.getElem_cons_zero, List.setIfInBounds_toArray, List.set_cons_zero, List.set_cons_succ]
      refine wpAnyH_take (i := 12) (oi := _) (v := .agg #[.bool s0, .slice b ln kb, .int .i64 y0]) rfl (by kernel_rfl) (by kernel_rfl) (by kernel_rfl) (fun _ _ _ h => h) (Or.inl ⟨by rfl, ?_⟩) hHeld ?_
      · intro wq hSw
        try dsimp only at hSw
        go_simp
      try simp only [Act.put, List.getElem_toArray, List.getElem_cons_succ, List.getElem_cons_zero, List.setIfInBounds_toArray, List.set_cons_zero, List.set_cons_succ]
      refine wpAnyH_take (i := 13) (oi := _) (v := .agg #[.bool s0, .slice b ln kb, .int .i64 y0, .bool s0, .slice b ln kb, .int .i64 y0]) rfl (by kernel_rfl) (by kernel_rfl) (by kernel_rfl) (fun _ _ _ h => h) (Or.inl ⟨by rfl, ?_⟩) hHeld ?_
      · intro wq hSw
        try dsimp only at hSw
        go_simp
      try simp only [Act.put, List.getElem_toArray, List.getElem_cons_succ, List.getElem_cons_zero, List.setIfInBounds_toArray, List.set_cons_zero, List.set_cons_succ]
      refine wpAnyH_take (i := 14) (oi := _) (v := .pointer (some ⟨g, j * 6, none⟩)) rfl (by kernel_rfl) (by kernel_rfl) (by kernel_rfl) (fun _ _ _ h => h) (Or.inl ⟨by rfl, ?_⟩) hHeld ?_
      · intro wq hSw
        try dsimp only at hSw
        go_simp
      try simp only [Act.put, List.getElem_toArray, List.getElem_cons_succ, List.getElem_cons_zero, List.setIfInBounds_toArray, List.set_cons_zero, List.set_cons_succ]
      obtain ⟨u0, hx0⟩ := (unhide HF).cell (j * 6) (by omega)
      have fg0 := (unhide HF).loose (j * 6) (by omega)
      obtain ⟨u1, hx1⟩ := (unhide HF).cell (j * 6 + 1) (by omega)
      have fg1 := (unhide HF).loose (j * 6 + 1) (by omega)
      obtain ⟨u2, hx2⟩ := (unhide HF).cell (j * 6 + 2) (by omega)
      have fg2 := (unhide HF).loose (j * 6 + 2) (by omega)
      obtain ⟨u3, hx3⟩ := (unhide HF).cell (j * 6 + 3) (by omega)
      have fg3 := (unhide HF).loose (j * 6 + 3) (by omega)
      obtain ⟨u4, hx4⟩ := (unhide HF).cell (j * 6 + 4) (by omega)
      have fg4 := (unhide HF).loose (j * 6 + 4) (by omega)
      obtain ⟨u5, hx5⟩ := (unhide HF).cell (j * 6 + 5) (by omega)
      have fg5 := (unhide HF).loose (j * 6 + 5) (by omega)
      have F5 := hide ((unhide HF).share hlt (unhide RR) (Nat.le_refl _) (unhide E0) (unhide E1))
      clear HF RR E0 E1
      refine wpAnyH_ready (rs := [15]) (by kernel_rfl) (by simp) ?_
      refine AllReadyH.cons rfl (fun KK hK => ?_) AllReadyH.nil
      simp only [List.getElem_toArray, List.getElem_cons_succ, List.getElem_cons_zero]
      rw [if_pos (by rfl)]
      go_simp
      have ks : Kept g (g + 1) wd ((((((wd.setCell ⟨g, j * 6, none⟩ (.bool s0)).setCell ⟨g, j * 6 + 1, none⟩ (.slice b ln kb)).setCell ⟨g, j * 6 + 2, none⟩ (.int .i64 y0)).setCell ⟨g, j * 6 + 3, none⟩ (.bool s0)).setCell ⟨g, j * 6 + 4, none⟩ (.slice b ln kb)).setCell ⟨g, j * 6 + 5, none⟩ (.int .i64 y0)) := (((((((Kept.refl g (g + 1) wd).setCell (p := ⟨g, j * 6, none⟩) (Nat.le_refl _) (Nat.lt_succ_self _) (.bool s0)).setCell (p := ⟨g, j * 6 + 1, none⟩) (Nat.le_refl _) (Nat.lt_succ_self _) (.slice b ln kb)).setCell (p := ⟨g, j * 6 + 2, none⟩) (Nat.le_refl _) (Nat.lt_succ_self _) (.int .i64 y0)).setCell (p := ⟨g, j * 6 + 3, none⟩) (Nat.le_refl _) (Nat.lt_succ_self _) (.bool s0)).setCell (p := ⟨g, j * 6 + 4, none⟩) (Nat.le_refl _) (Nat.lt_succ_self _) (.slice b ln kb)).setCell (p := ⟨g, j * 6 + 5, none⟩) (Nat.le_refl _) (Nat.lt_succ_self _) (.int .i64 y0))
      replace O1 := ks.cellOut (by dsimp only; omega) O1
      replace A1 := ks.cellOut (by dsimp only; omega) A1
      replace m0 := ks.cellOut (by dsimp only; omega) m0
      replace m1 := ks.cellOut (by dsimp only; omega) m1
      replace m2 := ks.cellOut (by dsimp only; omega) m2
      have K7 := hide ((unhide KD).wide ks (by omega))
      have KG7 := hide ((unhide KGD).trans ks)
      clear ks KD KGD
      clear hHeld
      refine hK.out _ _ ?_ (fun hHeld => ?_)
      · exact ⟨O1, A1, m0, m1, m2⟩
      clear hK KK
      try simp only [Act.put, List.getElem_toArray, List.getElem_cons_succ, List.getElem_cons_zero, List.setIfInBounds_toArray, List.set_cons_zero, List.set_cons_succ]
      refine wpAnyH_done (by kernel_rfl) ?_ _
      clear hHeld O1 A1 m0 m1 m2 hx0 hx1 hx2 hx3 hx4 hx5 fg0 fg1 fg2 fg3 fg4 fg5 hgw hgo
      go_wp2
      go_roundw
      case rel => exact ⟨j + 1, by simp, hlt, F5, K7, KG7⟩
      case measure => simp [intOf]; omega
    · have hjn : j = m := by omega
      subst hjn
      have O0 := (unhide kg).cellOut (a := ⟨O, 0, none⟩) (by dsimp only; omega) o0
      have O1 := (unhide kg).cellOut (a := ⟨O, 1, none⟩) (by dsimp only; omega) o1
      have Q0 := (unhide kg).cellOut (a := ⟨w.heap.size + 1, 0, none⟩) (by dsimp only; omega) q0'
      have Q1 := (unhide kg).cellOut (a := ⟨w.heap.size + 1, 1, none⟩) (by dsimp only; omega) q1'
      have Qf0 := (unhide kg).looseOut (a := ⟨w.heap.size + 1, 0, none⟩) (by dsimp only; omega) (World.block_lt_of_cell? _ _ q0') f0'
      have Qf1 := (unhide kg).looseOut (a := ⟨w.heap.size + 1, 1, none⟩) (by dsimp only; omega) (World.block_lt_of_cell? _ _ q1') f1'
      have ks : Kept (w.heap.size + 1) (w.heap.size + 2) wr ((wr.setCell ⟨w.heap.size + 1, 0, none⟩ (.int .i64 (k : Int))).setCell ⟨w.heap.size + 1, 1, none⟩ (.slice (some ⟨g, 0, none⟩) j j)) := ((Kept.refl _ _ _).setCell (p := ⟨w.heap.size + 1, 0, none⟩) (Nat.le_refl _) (Nat.lt_succ_self _) _).setCell (p := ⟨w.heap.size + 1, 1, none⟩) (Nat.le_refl _) (Nat.lt_succ_self _) _
      have DD := hide (ivsP_done ((unhide hF).keptW ks (by omega) (by omega)) (unhide HLEN) (by unfold maxLen; omega))
      have K7 := hide ((unhide kw).wide ks (by omega))
      clear hF kg kw ks hgo hgw
      go_wp2
      exact bodyPost_ret (v := .agg #[.int .i64 (k : Int), .slice (some ⟨g, 0, none⟩) j j]) (by simp [results, Tryd.results16, go_sem, Q0, Q1]) rfl ⟨.slice (some ⟨g, 0, none⟩) j j, rfl, unhide DD, unhide K7⟩

theorem of_sz (n : Int) (ds : List DE) : szT (ofL n ds) ≤ 4000 := by
  cases hb : mokB n ds
  · rw [(of_no hb).2.1]; decide
  · rw [(of_yes hb).2.1]
    obtain ⟨u1, u2, u3, U⟩ := mok_partsA hb
    obtain ⟨k, rfl⟩ := Int.eq_ofNat_of_zero_le (show 0 ≤ n by omega)
    have hl : ds.length = k * k := by rw [← Int.natCast_mul] at u3; omega
    have h16 : k * k ≤ 4 * 4 := Nat.mul_le_mul (by omega) (by omega)
    have hlen := dbL_len ds ds.length
    have h1 := limT_le (dbL ds ds.length) (fun i hi => by
      have hi2 : i < 2 * ds.length := by omega
      unfold dbL
      rw [map_at _ _ _ hi2]
      obtain ⟨w1', -, -, -, -⟩ := dok_parts (U (i / 2) (by omega))
      obtain ⟨-, -, lx, -⟩ := wok_int w1'
      omega) (dbL ds ds.length).length (Nat.le_refl _)
    unfold szT
    omega

theorem imok_db {n : Int} {ds : List DE} (h : mokB n ds = true) : imokB n (dbL ds ds.length) ds.length = true := by
  obtain ⟨u1, u2, u3, U⟩ := mok_partsA h
  unfold imokB
  rw [decide_eq_true u1, decide_eq_true u2, decide_eq_true u3, Bool.true_and, Bool.true_and, Bool.true_and]
  unfold ivAll
  rw [List.all_eq_true]
  intro p hp
  have hp2 := List.mem_range.1 hp
  unfold ivE
  rw [dbL_lo hp2, dbL_hi hp2, iok_self]
  exact U p hp2

set_option maxHeartbeats 8000000 in
theorem ivMatOf_spec {lo hi : Nat} {v : Value} {ds : List DE} (n : Int) (w : World) (hw : WfD ds) (r : Dys lo hi w v ds) :
    Calls Tryd.prog 5 #[.agg #[.int .i64 n, v]] w fun e w' => ∃ v', e = .returned (.tuple #[.agg #[.int .i64 (ofN n ds), v'], .bool (mokB n ds)]) ∧ IvsO w.heap.size w'.heap.size w' v' (ofL n ds) (ofC n ds) ∧ Kept 0 0 w w' := by
  obtain ⟨W, hW⟩ : ∃ W, W = (w.alloc (.cells #[.int .i64 n, v] 33)).alloc (.cells #[.int .i64 0, .slice none 0 0] 28) := ⟨_, rfl⟩
  have k0 : Kept 0 0 w W := by rw [hW]; exact ((Kept.refl 0 0 w).alloc _).alloc _
  have c0 : W.cell? ⟨w.heap.size, 0, none⟩ = some (.int .i64 n) := by rw [hW]; exact old_cell _ (new_cell2 _ _ _ _ _ _ (by simp) rfl)
  have c1 : W.cell? ⟨w.heap.size, 1, none⟩ = some v := by rw [hW]; exact old_cell _ (new_cell2 _ _ _ _ _ _ (by simp) rfl)
  have q0 : W.cell? ⟨w.heap.size + 1, 0, none⟩ = some (.int .i64 0) := by rw [hW]; exact new_cell2 _ _ _ _ _ _ (by simp) rfl
  have q1 : W.cell? ⟨w.heap.size + 1, 1, none⟩ = some (.slice none 0 0) := by rw [hW]; exact new_cell2 _ _ _ _ _ _ (by simp) rfl
  have f0 : W.frozen? ⟨w.heap.size + 1, 0, none⟩ = false := by rw [hW]; exact new_loose2 _ _ _ _ _ (by simp)
  have f1 : W.frozen? ⟨w.heap.size + 1, 1, none⟩ = false := by rw [hW]; exact new_loose2 _ _ _ _ _ (by simp)
  have sW : W.heap.size = w.heap.size + 2 := by rw [hW]; simp
  have r0 := r.kept k0 (by omega)
  have ho := matOk_spec n W hw r0
  obtain ⟨a, c, rfl, -, -⟩ := r.form
  obtain ⟨NN, hNN⟩ : ∃ q, q = ofN n ds := ⟨_, rfl⟩
  obtain ⟨LL, hLL⟩ : ∃ q, q = ofL n ds := ⟨_, rfl⟩
  obtain ⟨CC, hCC⟩ : ∃ q, q = ofC n ds := ⟨_, rfl⟩
  obtain ⟨BB, hBB⟩ : ∃ q, q = mokB n ds := ⟨_, rfl⟩
  rw [← hBB] at ho
  rw [← hNN, ← hLL, ← hCC, ← hBB]
  have HYES : Hid (BB = true → NN = n ∧ LL = dbL ds ds.length ∧ CC = ds.length) := fun h => by rw [hNN, hLL, hCC]; exact of_yes (by rw [← hBB]; exact h)
  have HNO : Hid (BB = false → NN = 0 ∧ LL = [] ∧ CC = 0) := fun h => by rw [hNN, hLL, hCC]; exact of_no (by rw [← hBB]; exact h)
  have HBB := hide hBB
  rw [hW] at ho
  clear r hNN hLL hCC hBB
  go_enter Tryd.func5, Tryd.ntmps5
  go_wp2_with fail
  rw [← hW] at ho ⊢
  clear hW
  refine ho.mono ?_
  rintro e w1 ⟨rfl, k1⟩
  replace f0 := k1.loose0 (World.block_lt_of_cell? _ _ q0) f0
  replace f1 := k1.loose0 (World.block_lt_of_cell? _ _ q1) f1
  replace c0 := k1.cell0 c0
  replace c1 := k1.cell0 c1
  replace q0 := k1.cell0 q0
  replace q1 := k1.cell0 q1
  replace r0 := r0.kept k1 (by omega)
  have K1 := hide (k0.trans k1)
  have z1 := k1.size
  clear ho k0 k1
  cases hb : BB
  · obtain ⟨h1, h2, h3⟩ := unhide HNO hb
    subst h1; subst h2; subst h3; subst hb
    have K7 := hide (((unhide K1).setNew (p := ⟨w.heap.size + 1, 0, none⟩) (by simp) (.int .i64 0)).setNew (p := ⟨w.heap.size + 1, 1, none⟩) (by simp) (.slice none 0 0))
    clear r0 K1 HYES HNO HBB
    go_wp2
    exact bodyPost_ret (v := .tuple #[.agg #[.int .i64 0, .slice none 0 0], .bool false]) (by simp [results, Tryd.results5, go_sem, q0, q1]) rfl ⟨.slice none 0 0, rfl, IvsO.nil _ _ _, unhide K7⟩
  obtain ⟨h1, h2, h3⟩ := unhide HYES hb
  have hk : mokB n ds = true := by rw [← unhide HBB]; exact hb
  subst hb
  have HH := hide (And.intro h1 (And.intro h2 h3))
  clear HYES HNO HBB h1 h2 h3
  obtain ⟨u1, u2, u3, U⟩ := mok_partsA hk
  have hlen : ds.length ≤ 100 := by
    obtain ⟨k, rfl⟩ := Int.eq_ofNat_of_zero_le (show 0 ≤ n by omega)
    have : ds.length = k * k := by rw [← Int.natCast_mul] at u3; omega
    have h16 : k * k ≤ 4 * 4 := Nat.mul_le_mul (by omega) (by omega)
    omega
  have HSW := hide (show w.heap.size + 2 ≤ w1.heap.size by omega)
  clear sW z1
  obtain ⟨k, hkn⟩ := Int.eq_ofNat_of_zero_le (show 0 ≤ n by omega)
  subst hkn
  have hkk : ds.length = k * k := by rw [← Int.natCast_mul] at u3; omega
  have hop := of10_spec w1 (show k ≤ 4 by omega) hkk rfl r0
  have HI := hide (imok_db hk)
  have HWD : Hid (WfD (dbL ds ds.length) ∧ AllWN (dbL ds ds.length)) := by
    constructor
    · intro i hi
      have hi2 : i < 2 * ds.length := by rw [dbL_len] at hi; exact hi
      unfold dbL
      rw [map_at _ _ _ hi2]
      have := dok_parts (U (i / 2) (by omega))
      exact ⟨by omega, by omega⟩
    · intro i hi
      have hi2 : i < 2 * ds.length := by rw [dbL_len] at hi; exact hi
      unfold dbL
      rw [map_at _ _ _ hi2]
      have h5 := U (i / 2) (by omega)
      have h6 := (dok_wb h5).1
      exact ⟨h6, by have := (wok_int (dok_parts h5).1).2.2.1; omega⟩
  have HLN := hide hlen
  clear r0 U hlen hk u1 u2 u3 hkk hw
  go_wp2_with fail
  refine hop.mono ?_
  rintro e w3 ⟨v3, rfl, r3, k3⟩
  have hft := fits10_spec (k : Int) w3 (unhide HWD).1 (unhide HWD).2 r3
  rw [(f10_yes (unhide HI)).1, (f10_yes (unhide HI)).2.1, (f10_yes (unhide HI)).2.2, unhide HI] at hft
  obtain ⟨a3, e3, hv3, -, -⟩ := r3.form
  subst hv3
  replace f0 := k3.loose0 (World.block_lt_of_cell? _ _ q0) f0
  replace f1 := k3.loose0 (World.block_lt_of_cell? _ _ q1) f1
  replace q0 := k3.cell0 q0
  replace q1 := k3.cell0 q1
  replace K1 := hide ((unhide K1).trans k3)
  replace HSW := hide (Nat.le_trans (unhide HSW) k3.size)
  clear hop r3 k3
  go_wp2_with fail
  have ht := hft
  clear hft
  refine ht.mono ?_
  rintro e w5 ⟨v5, rfl, r5, k5⟩
  obtain ⟨a5, e5, hv5⟩ := r5.form'
  subst hv5
  have hsw := unhide HSW
  replace f0 := k5.loose0 (World.block_lt_of_cell? _ _ q0) f0
  replace f1 := k5.loose0 (World.block_lt_of_cell? _ _ q1) f1
  replace q0 := k5.cell0 q0
  replace q1 := k5.cell0 q1
  have z5 := k5.size
  have ks : Kept (w.heap.size + 1) (w.heap.size + 2) w5 ((w5.setCell ⟨w.heap.size + 1, 0, none⟩ (.int .i64 (k : Int))).setCell ⟨w.heap.size + 1, 1, none⟩ (.slice a5 ds.length e5)) := ((Kept.refl _ _ _).setCell (p := ⟨w.heap.size + 1, 0, none⟩) (Nat.le_refl _) (Nat.lt_succ_self _) _).setCell (p := ⟨w.heap.size + 1, 1, none⟩) (Nat.le_refl _) (Nat.lt_succ_self _) _
  have K7 := hide (((unhide K1).trans k5).wide ks (by omega))
  have hsz : ((w5.setCell ⟨w.heap.size + 1, 0, none⟩ (.int .i64 (k : Int))).setCell ⟨w.heap.size + 1, 1, none⟩ (.slice a5 ds.length e5)).heap.size = w5.heap.size := by rw [size_set, size_set]
  have R7 := hide ((r5.kept ks (by omega)).wider (lo' := w.heap.size) (hi' := ((w5.setCell ⟨w.heap.size + 1, 0, none⟩ (.int .i64 (k : Int))).setCell ⟨w.heap.size + 1, 1, none⟩ (.slice a5 ds.length e5)).heap.size) (by omega) (by omega))
  clear ht r5 k5 ks hsz K1 hsw z5 c0 c1
  go_wp2
  exact bodyPost_ret (v := .tuple #[.agg #[.int .i64 (k : Int), .slice a5 ds.length e5], .bool true]) (by simp [results, Tryd.results5, go_sem, q0, q1]) rfl ⟨.slice a5 ds.length e5, by rw [(unhide HH).1], by rw [(unhide HH).2.1, (unhide HH).2.2]; exact unhide R7, unhide K7⟩

end Go.Proofs.YthahoabkehcgbaaDoor
