/-
  IvMatWide of the model.
-/
import Derived.Test.YthahoabkehcgbaaGreatDoorWid1
import Derived.Test.YthahoabkehcgbaaGreatDoorNr4g
import Derived.Deep.DeepCutAuto
import Derived.Deep.RegionHeld3
namespace Go.Proofs.YthahoabkehcgbaaGreatDoor
open Go.RowKit
set_option linter.unusedVariables false
set_option maxRecDepth 8000
set_option linter.unusedSimpArgs false

theorem in_neg4w : ∀ (w : World) (args : Array Value), (callFunc 125 args).run Tryz.prog w = .ok (.enter 125 args) w := enters Tryz.func125 (by decide) (fun h => by cases h)
theorem neg_nv {L V : Int} {s : Bool} {z : List Int} {y : Int} (h : IsV L V (s, z, y)) : IsV L (-V) (wsg (-wval s z), wlm (-wval s z), y) := neg_isV h (wn_int (-wval s z)).1 (wval_int _) rfl

set_option maxHeartbeats 16000000 in
theorem wide8_spec {k n lo hi : Nat} {v : Value} {ds : List DE} (w : World) (hk0 : 0 < k) (hk : k ≤ 4) (hl : n = k * k) (U : ∀ q, q < 2 * n → dOkE (ds.getD q de0) = true) (r : Ivs lo hi w v ds n) :
    Calls Tryz.prog 79 #[.agg #[.int .i64 (k : Int), v]] w fun e w' => ∃ v', e = .returned (.agg #[.bool (nE (widM k ds) (-3000)).1, v', .int .i64 (nE (widM k ds) (-3000)).2.2]) ∧ Row .i64 true w.heap.size w'.heap.size w' v' (nE (widM k ds) (-3000)).2.1 ∧ Kept 0 0 w w' := by
  obtain ⟨W, hW⟩ : ∃ W, W = (w.alloc (.cells #[.int .i64 (k : Int), v] 28)).alloc (.cells #[.bool false, .slice none 0 0, .int .i64 0] 52) := ⟨_, rfl⟩
  have k0 : Kept 0 0 w W := by rw [hW]; exact ((Kept.refl 0 0 w).alloc _).alloc _
  have c0 : W.cell? ⟨w.heap.size, 0, none⟩ = some (.int .i64 (k : Int)) := by rw [hW]; exact old_cell _ (new_cell2 _ _ _ _ _ _ (by simp) rfl)
  have c1 : W.cell? ⟨w.heap.size, 1, none⟩ = some v := by rw [hW]; exact old_cell _ (new_cell2 _ _ _ _ _ _ (by simp) rfl)
  have q0 : W.cell? ⟨w.heap.size + 1, 0, none⟩ = some (.bool false) := by rw [hW]; exact new_cell2 _ _ _ _ _ _ (by simp) rfl
  have q1 : W.cell? ⟨w.heap.size + 1, 1, none⟩ = some (.slice none 0 0) := by rw [hW]; exact new_cell2 _ _ _ _ _ _ (by simp) rfl
  have q2 : W.cell? ⟨w.heap.size + 1, 2, none⟩ = some (.int .i64 0) := by rw [hW]; exact new_cell2 _ _ _ _ _ _ (by simp) rfl
  have f0 : W.frozen? ⟨w.heap.size + 1, 0, none⟩ = false := by rw [hW]; exact new_loose2 _ _ _ _ _ (by simp)
  have f1 : W.frozen? ⟨w.heap.size + 1, 1, none⟩ = false := by rw [hW]; exact new_loose2 _ _ _ _ _ (by simp)
  have f2 : W.frozen? ⟨w.heap.size + 1, 2, none⟩ = false := by rw [hW]; exact new_loose2 _ _ _ _ _ (by simp)
  have sW : W.heap.size = w.heap.size + 2 := by rw [hW]; simp
  have h16 : k * k ≤ 4 * 4 := Nat.mul_le_mul hk hk
  obtain ⟨PL, hPL⟩ : ∃ PL, PL = (List.range n).map fun p => nE (widF ds p) (-3000) := ⟨_, rfl⟩
  have hn8 := new8_spec hk W PL
  rw [← hl] at hn8 h16
  obtain ⟨a, c, rfl, -, -⟩ := r.form
  have R := hide r
  have HPL := hide hPL
  have HNN := hide hl
  have HU := hide U
  have SW := hide sW
  have HPN := hide (show n = PL.length by rw [hPL]; simp)
  rw [hW] at hn8
  clear r hPL U sW hl
  obtain ⟨⟨GS, GL, GE⟩, hG⟩ : ∃ q, q = nE (widM k ds) (-3000) := ⟨_, rfl⟩
  rw [← hG]
  dsimp only
  have HG := hide hG
  clear hG
  go_enter Tryz.func79, Tryz.ntmps79
  go_wp2_with fail
  refine hn8.mono ?_
  rw [← hW]
  rintro e w1 ⟨g, rfl, F0, hg, k1⟩
  clear hn8 hW
  obtain ⟨O, hO⟩ : ∃ O, O = w1.heap.size := ⟨_, rfl⟩
  have o0 : (w1.alloc (.cells #[.int .i64 (k : Int), .slice (some ⟨g, 0, none⟩) n n] 59)).cell? ⟨O, 0, none⟩ = some (.int .i64 (k : Int)) := new_cell2 _ _ _ _ _ _ hO rfl
  have o1 : (w1.alloc (.cells #[.int .i64 (k : Int), .slice (some ⟨g, 0, none⟩) n n] 59)).cell? ⟨O, 1, none⟩ = some (.slice (some ⟨g, 0, none⟩) n n) := new_cell2 _ _ _ _ _ _ hO rfl
  have k2 := (Kept.refl 0 0 w1).alloc (.cells #[.int .i64 (k : Int), .slice (some ⟨g, 0, none⟩) n n] 59)
  have hgO : g < O := by have := F0.lt; omega
  have hOl : O < (w1.alloc (.cells #[.int .i64 (k : Int), .slice (some ⟨g, 0, none⟩) n n] 59)).heap.size := World.block_lt_of_cell? _ _ o0
  have kk := k1.trans k2
  have c1' := kk.cell0 c1
  have q0' := kk.cell0 q0
  have q1' := kk.cell0 q1
  have q2' := kk.cell0 q2
  have f0' := kk.loose0 (World.block_lt_of_cell? _ _ q0) f0
  have f1' := kk.loose0 (World.block_lt_of_cell? _ _ q1) f1
  have f2' := kk.loose0 (World.block_lt_of_cell? _ _ q2) f2
  have F1 := hide (F0.kept k2)
  have K2 := hide (k0.trans kk)
  have sW := unhide SW
  have hgw : w.heap.size + 2 ≤ g := by omega
  have HGW := hide hgw
  have HGO := hide (show g < O from hgO)
  clear F0 k0 k1 k2 kk c0 c1 q0 q1 q2 f0 f1 f2 hg sW hgw hgO hOl
  go_wp2_with fail
  rw [← hO]
  generalize (w1.alloc (.cells #[.int .i64 (k : Int), .slice (some ⟨g, 0, none⟩) n n] 59)) = w2 at *
  clear hO
  go_loopw [4] (fun s4 wr => ∃ j : Nat, s4 = .int .i64 j ∧ j ≤ n ∧ Hid (Fill 0 g n PL j wr) ∧ Hid (Kept 0 0 w wr) ∧ Hid (Kept g (g + 1) w2 wr)) (fun s4 _ => n - (intOf s4).toNat)
  case atStart => exact ⟨0, rfl, Nat.zero_le _, F1, K2, Kept.refl _ _ _⟩
  case round =>
    clear F1 K2
    obtain ⟨j, rfl, hj, hF, kw, kg⟩ := hrel
    have hwj : IntKind.i64.wrap ((j : Int) + 1) = ((j + 1 : Nat) : Int) := by rw [IntKind.wrap_i64]; omega
    have hgw := unhide HGW
    have hgo := unhide HGO
    have C1 := (unhide kg).cellOut (a := ⟨w.heap.size, 1, none⟩) (by dsimp only; omega) c1'
    by_cases hlt : j < n
    · have kgd := (unhide kg).drew
      have kd := (unhide kw).drew
      have O1 := kgd.cellOut (a := ⟨O, 1, none⟩) (by dsimp only; omega) o1
      have A1 := kgd.cellOut (a := ⟨w.heap.size, 1, none⟩) (by dsimp only; omega) c1'
      obtain ⟨gA, off, l0, l1, rfl, -, -, hgA, b, kb, b', kb', m0, m1, m2, m3, m4, m5, hln0, hln1, rr0, rr1⟩ := (unhide R).at (i := j) hlt
      have hk0 := unhide HU (2 * j) (by omega)
      have hk1 := unhide HU (2 * j + 1) (by omega)
      have hVl := widF_up hk0 hk1
      have hWF : widF ds j = dv (-3000) (ds.getD (2 * j + 1) de0) + -dv (-3000) (ds.getD (2 * j) de0) := rfl
      have HE0 : Hid (PL.getD j de0 = nE (widF ds j) (-3000)) := by show _ = _; rw [unhide HPL, map_at _ _ _ hlt]
      obtain ⟨⟨s0, z0, y0⟩, hE0⟩ : ∃ q, q = ds.getD (2 * j) de0 := ⟨_, rfl⟩
      obtain ⟨⟨s1, z1, y1⟩, hE1⟩ : ∃ q, q = ds.getD (2 * j + 1) de0 := ⟨_, rfl⟩
      rw [← hE0] at m0 m2 hln0 rr0 hk0 hWF
      rw [← hE1] at m3 m5 hln1 rr1 hk1 hWF
      dsimp only at m0 m2 hln0 rr0 m3 m5 hln1 rr1
      replace m0 := kd.cell0 m0
      replace m1 := kd.cell0 m1
      replace m2 := kd.cell0 m2
      replace m3 := kd.cell0 m3
      replace m4 := kd.cell0 m4
      replace m5 := kd.cell0 m5
      have iv0 := (dok_nv hk0 (Int.le_refl (-3000))).1
      have iv1 := (dok_nv hk1 (Int.le_refl (-3000))).1
      obtain ⟨lv0, -, ly0, ly1⟩ := dok_len (show dokB s0 z0 y0 = true from hk0)
      have hng := neg4_spec s0 y0 wr.drew (rr0.kept kd (by omega)) iv0.2.1 (by omega)
      have ivn := neg_nv iv0
      have wbn : WB (wsg (-wval s0 z0)) (wlm (-wval s0 z0)) y0 := ⟨wn_int _, Nat.le_trans (wlm_len (n := 100) (by rw [Int.natAbs_neg]; exact wval_lt iv0.2.1.1) (by omega)) (by decide), by omega, by omega⟩
      obtain ⟨sn, hsn⟩ : ∃ q, wsg (-wval s0 z0) = q := ⟨_, rfl⟩
      obtain ⟨zn, hzn⟩ : ∃ q, wlm (-wval s0 z0) = q := ⟨_, rfl⟩
      rw [hsn, hzn] at hng ivn wbn
      obtain ⟨⟨sr, zr, yr⟩, hR⟩ : ∃ q, q = nE (widF ds j) (-3000) := ⟨_, rfl⟩
      have hR' : (sr, zr, yr) = (wsg (wval s1 z1 * 2 ^ (y1 - min y1 y0).toNat + wval sn zn * 2 ^ (y0 - min y1 y0).toNat), dlm (wval s1 z1 * 2 ^ (y1 - min y1 y0).toNat + wval sn zn * 2 ^ (y0 - min y1 y0).toNat), dex (wval s1 z1 * 2 ^ (y1 - min y1 y0).toNat + wval sn zn * 2 ^ (y0 - min y1 y0).toNat) (min y1 y0)) := by
        rw [hR, hWF, ← sum_nE iv1 ivn]
        rfl
      simp only [Prod.mk.injEq] at hR'
      have R1 := rr1.tight.kept kd (by omega)
      have had := fun w' vm lom (r1' : Row .i64 false lo w.heap.size w' (.slice b' l1 kb') z1) (rm : Row .i64 true lom w'.heap.size w' vm zn) => add4_wide s1 sn y1 y0 w' r1' rm (dok_wb hk1) wbn
      rw [← hR'.1, ← hR'.2.1, ← hR'.2.2] at had
      have HE : Hid (PL.getD j de0 = (sr, zr, yr)) := by show _ = _; rw [unhide HE0, hR]
      have HAD := hide had
      have R1h := hide R1
      have KD := hide kd
      have KGD := hide kgd
      have hFd := hide ((unhide hF).kept ((Kept.refl 0 0 wr).drew))
      clear hln1 hWF HE0 hE0 hE1 hk0 hk1 hVl iv0 iv1 lv0 ly0 ly1 ivn wbn hsn hzn hR hR' R1 had rr0 rr1 kd kgd hF kw kg
      go_wp2_with fail
      refine wp_region_held_drew (S := (fun w' => w'.cell? ⟨O, 1, none⟩ = some (.slice (some ⟨g, 0, none⟩) n n) ∧ w'.cell? ⟨w.heap.size, 1, none⟩ = some (.slice (some ⟨gA, off, none⟩) n c) ∧ w'.cell? ⟨gA, off + j * 6, none⟩ = some (.bool s0) ∧ w'.cell? ⟨gA, off + j * 6 + 1, none⟩ = some (.slice b l0 kb) ∧ w'.cell? ⟨gA, off + j * 6 + 2, none⟩ = some (.int .i64 y0) ∧ w'.cell? ⟨gA, off + j * 6 + 3, none⟩ = some (.bool s1) ∧ w'.cell? ⟨gA, off + j * 6 + 4, none⟩ = some (.slice b' l1 kb') ∧ w'.cell? ⟨gA, off + j * 6 + 5, none⟩ = some (.int .i64 y1))) (by kernel_rfl) ?_ (fun hHeld => ?_)
      · exact ⟨O1, A1, m0, m1, m2, m3, m4, m5⟩
      refine wpAnyH_take (i := 0) (oi := _) (v := .pointer (some ⟨O, 1, none⟩)) rfl (by kernel_rfl) (by kernel_rfl) (by kernel_rfl) (fun _ _ _ h => h) (Or.inl ⟨by rfl, ?_⟩) hHeld ?_
      · intro wq hSw
        try dsimp only at hSw
        go_simp
      try simp only [Act.put, List.getElem_toArray, List.getElem_cons_succ, List.getElem_cons_zero, List.setIfInBounds_toArray, List.set_cons_zero, List.set_cons_succ]
      refine wpAnyH_take (i := 1) (oi := _) (v := .slice (some ⟨g, 0, none⟩) n n) rfl (by kernel_rfl) (by kernel_rfl) (by kernel_rfl) (fun _ _ _ h => h) (Or.inl ⟨by rfl, ?_⟩) hHeld ?_
      · intro wq hSw
        try dsimp only at hSw
        go_simp
      try simp only [Act.put, List.getElem_toArray, List.getElem_cons_succ, List.getElem_cons_zero, List.setIfInBounds_toArray, List.set_cons_zero, List.set_cons_succ]
      refine wpAnyH_take (i := 2) (oi := _) (v := .int .i64 (j : Int)) rfl (by kernel_rfl) (by kernel_rfl) (by kernel_rfl) (fun _ _ _ h => h) (Or.inl ⟨by rfl, ?_⟩) hHeld ?_
      · intro wq hSw
        try dsimp only at hSw
        go_simp
      try simp only [Act.put, List.getElem_toArray, List.getElem_cons_succ, List.getElem_cons_zero, List.setIfInBounds_toArray, List.set_cons_zero, List.set_cons_succ]
      refine wpAnyH_take (i := 3) (oi := _) (v := .pointer (some ⟨w.heap.size, 1, none⟩)) rfl (by kernel_rfl) (by kernel_rfl) (by kernel_rfl) (fun _ _ _ h => h) (Or.inl ⟨by rfl, ?_⟩) hHeld ?_
      · intro wq hSw
        try dsimp only at hSw
        go_simp
      try simp only [Act.put, List.getElem_toArray, List.getElem_cons_succ, List.getElem_cons_zero, List.setIfInBounds_toArray, List.set_cons_zero, List.set_cons_succ]
      refine wpAnyH_take (i := 4) (oi := _) (v := .slice (some ⟨gA, off, none⟩) n c) rfl (by kernel_rfl) (by kernel_rfl) (by kernel_rfl) (fun _ _ _ h => h) (Or.inl ⟨by rfl, ?_⟩) hHeld ?_
      · intro wq hSw
        try dsimp only at hSw
        go_simp
      try simp only [Act.put, List.getElem_toArray, List.getElem_cons_succ, List.getElem_cons_zero, List.setIfInBounds_toArray, List.set_cons_zero, List.set_cons_succ]
      refine wpAnyH_take (i := 5) (oi := _) (v := .int .i64 (j : Int)) rfl (by kernel_rfl) (by kernel_rfl) (by kernel_rfl) (fun _ _ _ h => h) (Or.inl ⟨by rfl, ?_⟩) hHeld ?_
      · intro wq hSw
        try dsimp only at hSw
        go_simp
      try simp only [Act.put, List.getElem_toArray, List.getElem_cons_succ, List.getElem_cons_zero, List.setIfInBounds_toArray, List.set_cons_zero, List.set_cons_succ]
      refine wpAnyH_take (i := 6) (oi := _) (v := .pointer (some ⟨gA, off + j * 6, none⟩)) rfl (by kernel_rfl) (by kernel_rfl) (by kernel_rfl) (fun _ _ _ h => h) (Or.inl ⟨by rfl, ?_⟩) hHeld ?_
      · intro wq hSw
        try dsimp only at hSw
        go_simp
      try simp only [Act.put, List.getElem_toArray, List.getElem_cons_succ, List.getElem_cons_zero, List.setIfInBounds_toArray, List.set_cons_zero, List.set_cons_succ]
      refine wpAnyH_take (i := 7) (oi := _) (v := .pointer (some ⟨gA, off + j * 6 + 3, none⟩)) rfl (by kernel_rfl) (by kernel_rfl) (by kernel_rfl) (fun _ _ _ h => h) (Or.inl ⟨by rfl, ?_⟩) hHeld ?_
      · intro wq hSw
        try dsimp only at hSw
        go_simp
      try simp only [Act.put, List.getElem_toArray, List.getElem_cons_succ, List.getElem_cons_zero, List.setIfInBounds_toArray, List.set_cons_zero, List.set_cons_succ]
      refine wpAnyH_take (i := 8) (oi := _) (v := .agg #[.bool s1, .slice b' l1 kb', .int .i64 y1]) rfl (by kernel_rfl) (by kernel_rfl) (by kernel_rfl) (fun _ _ _ h => h) (Or.inl ⟨by rfl, ?_⟩) hHeld ?_
      · intro wq hSw
        try dsimp only at hSw
        go_simp
      try simp only [Act.put, List.getElem_toArray, List.getElem_cons_succ, List.getElem_cons_zero, List.setIfInBounds_toArray, List.set_cons_zero, List.set_cons_succ]
      refine wpAnyH_take (i := 9) (oi := _) (v := .pointer (some ⟨w.heap.size, 1, none⟩)) rfl (by kernel_rfl) (by kernel_rfl) (by kernel_rfl) (fun _ _ _ h => h) (Or.inl ⟨by rfl, ?_⟩) hHeld ?_
      · intro wq hSw
        try dsimp only at hSw
        go_simp
      try simp only [Act.put, List.getElem_toArray, List.getElem_cons_succ, List.getElem_cons_zero, List.setIfInBounds_toArray, List.set_cons_zero, List.set_cons_succ]
      refine wpAnyH_take (i := 10) (oi := _) (v := .slice (some ⟨gA, off, none⟩) n c) rfl (by kernel_rfl) (by kernel_rfl) (by kernel_rfl) (fun _ _ _ h => h) (Or.inl ⟨by rfl, ?_⟩) hHeld ?_
      · intro wq hSw
        try dsimp only at hSw
        go_simp
      try simp only [Act.put, List.getElem_toArray, List.getElem_cons_succ, List.getElem_cons_zero, List.setIfInBounds_toArray, List.set_cons_zero, List.set_cons_succ]
      refine wpAnyH_take (i := 11) (oi := _) (v := .int .i64 (j : Int)) rfl (by kernel_rfl) (by kernel_rfl) (by kernel_rfl) (fun _ _ _ h => h) (Or.inl ⟨by rfl, ?_⟩) hHeld ?_
      · intro wq hSw
        try dsimp only at hSw
        go_simp
      try simp only [Act.put, List.getElem_toArray, List.getElem_cons_succ, List.getElem_cons_zero, List.setIfInBounds_toArray, List.set_cons_zero, List.set_cons_succ]
      refine wpAnyH_take (i := 12) (oi := _) (v := .pointer (some ⟨gA, off + j * 6, none⟩)) rfl (by kernel_rfl) (by kernel_rfl) (by kernel_rfl) (fun _ _ _ h => h) (Or.inl ⟨by rfl, ?_⟩) hHeld ?_
      · intro wq hSw
        try dsimp only at hSw
        go_simp
      try simp only [Act.put, List.getElem_toArray, List.getElem_cons_succ, List.getElem_cons_zero, List.setIfInBounds_toArray, List.set_cons_zero, List.set_cons_succ]
      refine wpAnyH_take (i := 13) (oi := _) (v := .pointer (some ⟨gA, off + j * 6, none⟩)) rfl (by kernel_rfl) (by kernel_rfl) (by kernel_rfl) (fun _ _ _ h => h) (Or.inl ⟨by rfl, ?_⟩) hHeld ?_
      · intro wq hSw
        try dsimp only at hSw
        go_simp
      try simp only [Act.put, List.getElem_toArray, List.getElem_cons_succ, List.getElem_cons_zero, List.setIfInBounds_toArray, List.set_cons_zero, List.set_cons_succ]
      refine wpAnyH_take (i := 14) (oi := _) (v := .agg #[.bool s0, .slice b l0 kb, .int .i64 y0]) rfl (by kernel_rfl) (by kernel_rfl) (by kernel_rfl) (fun _ _ _ h => h) (Or.inl ⟨by rfl, ?_⟩) hHeld ?_
      · intro wq hSw
        try dsimp only at hSw
        go_simp
      try simp only [Act.put, List.getElem_toArray, List.getElem_cons_succ, List.getElem_cons_zero, List.setIfInBounds_toArray, List.set_cons_zero, List.set_cons_succ]
      refine wpAnyH_ready (rs := [15]) (by kernel_rfl) (by simp) ?_
      refine AllReadyH.cons rfl (fun KK hK => ?_) AllReadyH.nil
      simp only [List.getElem_toArray, List.getElem_cons_succ, List.getElem_cons_zero]
      rw [if_pos (by rfl)]
      refine wps1 125 (.tmp 29) _ rfl in_neg4w (.agg #[.bool s0, .slice b l0 kb, .int .i64 y0]) rfl hng ?_
      rintro e w3 ⟨v3, rfl, r3, k3⟩
      refine ⟨_, rfl, ?_⟩
      obtain ⟨am, cm, hv3⟩ := Row.form' r3
      subst hv3
      have R3 := hide r3
      have K3 := hide k3
      replace R1h := hide ((unhide R1h).kept k3 (.inr (.inr (Nat.le_refl 0))))
      replace O1 := k3.cell0 O1
      replace A1 := k3.cell0 A1
      replace m0 := k3.cell0 m0
      replace m1 := k3.cell0 m1
      replace m2 := k3.cell0 m2
      replace m3 := k3.cell0 m3
      replace m4 := k3.cell0 m4
      replace m5 := k3.cell0 m5
      clear hng r3 k3
      clear hHeld
      refine hK.out _ _ ?_ (fun hHeld => ?_)
      · exact ⟨O1, A1, m0, m1, m2, m3, m4, m5⟩
      clear hK KK
      try simp only [Act.put, List.getElem_toArray, List.getElem_cons_succ, List.getElem_cons_zero, List.setIfInBounds_toArray, List.set_cons_zero, List.set_cons_succ]
      refine wpAnyH_ready (rs := [16]) (by kernel_rfl) (by simp) ?_
      refine AllReadyH.cons rfl (fun KK hK => ?_) AllReadyH.nil
      simp only [List.getElem_toArray, List.getElem_cons_succ, List.getElem_cons_zero]
      rw [if_pos (by rfl)]
      refine wps2 124 (.tmp 23) (.tmp 30) _ rfl in_l4add (.agg #[.bool s1, .slice b' l1 kb', .int .i64 y1]) (.agg #[.bool sn, .slice am zn.length cm, .int .i64 y0]) rfl rfl (unhide HAD w3 _ _ (unhide R1h) (unhide R3)) ?_
      rintro e w4 ⟨v4, rfl, r4, k4⟩
      refine ⟨_, rfl, ?_⟩
      obtain ⟨ar, cr, hv4⟩ := Row.form' r4
      subst hv4
      have K4 : Hid (Kept 0 0 wr.drew w4) := (unhide K3).trans k4
      have zz := (unhide K3).size
      have F4 := hide ((unhide hFd).step hlt (unhide K4) (r4.wider (lo' := wr.drew.heap.size) zz (Nat.le_refl _)) (unhide HE))
      have hFl := (unhide hFd).lt
      replace O1 := k4.cell0 O1
      replace A1 := k4.cell0 A1
      replace m0 := k4.cell0 m0
      replace m1 := k4.cell0 m1
      replace m2 := k4.cell0 m2
      replace m3 := k4.cell0 m3
      replace m4 := k4.cell0 m4
      replace m5 := k4.cell0 m5
      obtain ⟨x0, hx0⟩ := (unhide hFd).cell (j * 3) (by omega)
      replace hx0 := (unhide K4).cell0 hx0
      have fg0 := (unhide K4).loose0 (a := ⟨g, j * 3, none⟩) hFl ((unhide hFd).loose (j * 3) (by omega))
      obtain ⟨x1, hx1⟩ := (unhide hFd).cell (j * 3 + 1) (by omega)
      replace hx1 := (unhide K4).cell0 hx1
      have fg1 := (unhide K4).loose0 (a := ⟨g, j * 3 + 1, none⟩) hFl ((unhide hFd).loose (j * 3 + 1) (by omega))
      obtain ⟨x2, hx2⟩ := (unhide hFd).cell (j * 3 + 2) (by omega)
      replace hx2 := (unhide K4).cell0 hx2
      have fg2 := (unhide K4).loose0 (a := ⟨g, j * 3 + 2, none⟩) hFl ((unhide hFd).loose (j * 3 + 2) (by omega))
      have KW4 := hide ((unhide KD).trans (unhide K4))
      have KG4 := hide ((unhide KGD).trans (unhide K4).any)
      clear r4 k4 HAD R1h R3 K3 K4 hFd KD KGD zz hFl
      clear hHeld
      refine hK.out _ _ ?_ (fun hHeld => ?_)
      · exact ⟨O1, A1, m0, m1, m2, m3, m4, m5⟩
      clear hK KK
      try simp only [Act.put, List.getElem_toArray, List.getElem_cons_succ, List.getElem_cons_zero, List.setIfInBounds_toArray, List.set_cons_zero, List.set_cons_succ]
      refine wpAnyH_take (i := 17) (oi := _) (v := .pointer (some ⟨g, j * 3, none⟩)) rfl (by kernel_rfl) (by kernel_rfl) (by kernel_rfl) (fun _ _ _ h => h) (Or.inl ⟨by rfl, ?_⟩) hHeld ?_
      · intro wq hSw
        try dsimp only at hSw
        go_simp
      try simp only [Act.put, List.getElem_toArray, List.getElem_cons_succ, List.getElem_cons_zero, List.setIfInBounds_toArray, List.set_cons_zero, List.set_cons_succ]
      refine wpAnyH_ready (rs := [18]) (by kernel_rfl) (by simp) ?_
      refine AllReadyH.cons rfl (fun KK hK => ?_) AllReadyH.nil
      simp only [List.getElem_toArray, List.getElem_cons_succ, List.getElem_cons_zero]
      rw [if_pos (by rfl)]
      go_simp
      have ks : Kept g (g + 1) w4 (((w4.setCell ⟨g, j * 3, none⟩ (.bool sr)).setCell ⟨g, j * 3 + 1, none⟩ (.slice ar zr.length cr)).setCell ⟨g, j * 3 + 2, none⟩ (.int .i64 yr)) := (((Kept.refl _ _ _).setCell (p := ⟨g, j * 3, none⟩) (Nat.le_refl _) (Nat.lt_succ_self _) _).setCell (p := ⟨g, j * 3 + 1, none⟩) (Nat.le_refl _) (Nat.lt_succ_self _) _).setCell (p := ⟨g, j * 3 + 2, none⟩) (Nat.le_refl _) (Nat.lt_succ_self _) _
      replace O1 := ks.cellOut (by dsimp only; omega) O1
      replace A1 := ks.cellOut (by dsimp only; omega) A1
      replace m0 := ks.cellOut (by dsimp only; omega) m0
      replace m1 := ks.cellOut (by dsimp only; omega) m1
      replace m2 := ks.cellOut (by dsimp only; omega) m2
      replace m3 := ks.cellOut (by dsimp only; omega) m3
      replace m4 := ks.cellOut (by dsimp only; omega) m4
      replace m5 := ks.cellOut (by dsimp only; omega) m5
      have K5 := hide ((unhide KW4).wide ks (by omega))
      have KG5 := hide ((unhide KG4).trans ks)
      clear ks KW4 KG4
      clear hHeld
      refine hK.out _ _ ?_ (fun hHeld => ?_)
      · exact ⟨O1, A1, m0, m1, m2, m3, m4, m5⟩
      clear hK KK
      try simp only [Act.put, List.getElem_toArray, List.getElem_cons_succ, List.getElem_cons_zero, List.setIfInBounds_toArray, List.set_cons_zero, List.set_cons_succ]
      refine wpAnyH_done (by kernel_rfl) ?_ _
      clear hHeld O1 A1 m0 m1 m2 m3 m4 m5 hx0 hx1 hx2 fg0 fg1 fg2 hgw hgo
      go_wp2
      go_roundw
      case rel => exact ⟨j + 1, by simp, hlt, F4, K5, KG5⟩
      case measure => simp [intOf]; omega
    · have hjn : j = n := by omega
      subst hjn
      have O0 := (unhide kg).cellOut (a := ⟨O, 0, none⟩) (by dsimp only; omega) o0
      have O1 := (unhide kg).cellOut (a := ⟨O, 1, none⟩) (by dsimp only; omega) o1
      have Q0 := (unhide kg).cellOut (a := ⟨w.heap.size + 1, 0, none⟩) (by dsimp only; omega) q0'
      have Q1 := (unhide kg).cellOut (a := ⟨w.heap.size + 1, 1, none⟩) (by dsimp only; omega) q1'
      have Q2 := (unhide kg).cellOut (a := ⟨w.heap.size + 1, 2, none⟩) (by dsimp only; omega) q2'
      have Qf0 := (unhide kg).looseOut (a := ⟨w.heap.size + 1, 0, none⟩) (by dsimp only; omega) (World.block_lt_of_cell? _ _ q0') f0'
      have Qf1 := (unhide kg).looseOut (a := ⟨w.heap.size + 1, 1, none⟩) (by dsimp only; omega) (World.block_lt_of_cell? _ _ q1') f1'
      have Qf2 := (unhide kg).looseOut (a := ⟨w.heap.size + 1, 2, none⟩) (by dsimp only; omega) (World.block_lt_of_cell? _ _ q2') f2'
      have DD := ((unhide hF).done (unhide HPN) (by unfold maxLen; omega)).read
      have hPk : PL.length = k * k := by rw [← unhide HPN, unhide HNN]
      have hno := norm8G_spec (V := widF ds) wr hk0 hk hPk (fun p hp => by
        have hp2 : p < j := by rw [unhide HNN]; exact hp
        have e : PL.getD p de0 = nE (widF ds p) (-3000) := by rw [unhide HPL, map_at _ _ _ hp2]
        rw [e]
        exact ⟨nE_wbT (widF_up (unhide HU _ (by omega)) (unhide HU _ (by omega))), nE_isV (by decide)⟩) (fun a b ha hb => widS_lt hk ha hb (fun q hq => unhide HU q (by rw [unhide HNN]; exact hq))) DD
      rw [widM_eq] at hno
      rw [← unhide HG] at hno
      dsimp only at hno
      have KW := hide (unhide kw)
      clear hF kg kw DD hPk hgo
      go_wp2_with fail
      refine hno.mono ?_
      rintro e w6 ⟨v6, rfl, r6, k6⟩
      obtain ⟨au, cu, hv6⟩ := Row.form' r6
      subst hv6
      replace Qf0 := k6.loose0 (World.block_lt_of_cell? _ _ Q0) Qf0
      replace Qf1 := k6.loose0 (World.block_lt_of_cell? _ _ Q1) Qf1
      replace Qf2 := k6.loose0 (World.block_lt_of_cell? _ _ Q2) Qf2
      replace Q0 := k6.cell0 Q0
      replace Q1 := k6.cell0 Q1
      replace Q2 := k6.cell0 Q2
      have hwr : w.heap.size + 2 ≤ wr.heap.size := by have := World.block_lt_of_cell? _ _ O1; dsimp only at this; have := unhide HGO; omega
      have ks : Kept (w.heap.size + 1) (w.heap.size + 2) w6 (((w6.setCell ⟨w.heap.size + 1, 0, none⟩ (.bool GS)).setCell ⟨w.heap.size + 1, 1, none⟩ (.slice au GL.length cu)).setCell ⟨w.heap.size + 1, 2, none⟩ (.int .i64 GE)) := (((Kept.refl _ _ _).setCell (p := ⟨w.heap.size + 1, 0, none⟩) (Nat.le_refl _) (Nat.lt_succ_self _) _).setCell (p := ⟨w.heap.size + 1, 1, none⟩) (Nat.le_refl _) (Nat.lt_succ_self _) _).setCell (p := ⟨w.heap.size + 1, 2, none⟩) (Nat.le_refl _) (Nat.lt_succ_self _) _
      have hsz : (((w6.setCell ⟨w.heap.size + 1, 0, none⟩ (.bool GS)).setCell ⟨w.heap.size + 1, 1, none⟩ (.slice au GL.length cu)).setCell ⟨w.heap.size + 1, 2, none⟩ (.int .i64 GE)).heap.size = w6.heap.size := by rw [size_set, size_set, size_set]
      have R7 := hide ((r6.kept ks (by omega)).wider (lo' := w.heap.size) (hi' := (((w6.setCell ⟨w.heap.size + 1, 0, none⟩ (.bool GS)).setCell ⟨w.heap.size + 1, 1, none⟩ (.slice au GL.length cu)).setCell ⟨w.heap.size + 1, 2, none⟩ (.int .i64 GE)).heap.size) (by omega) (by omega))
      have K7 := hide (((unhide KW).trans k6).wide ks (by omega))
      have G0 := cell_off _ _ _ 2 (.int .i64 GE) _ (cell_off _ _ _ 1 (.slice au GL.length cu) _ (cell_on _ _ _ (.bool GS) _ Q0) (show (0 : Nat) ≠ 1 by omega)) (show (0 : Nat) ≠ 2 by omega)
      have G1 := cell_off _ _ _ 2 (.int .i64 GE) _ (cell_on _ _ _ (.slice au GL.length cu) _ (cell_off _ _ _ 0 (.bool GS) _ Q1 (show (1 : Nat) ≠ 0 by omega))) (show (1 : Nat) ≠ 2 by omega)
      have G2 := cell_on _ _ _ (.int .i64 GE) _ (cell_off _ _ _ 1 (.slice au GL.length cu) _ (cell_off _ _ _ 0 (.bool GS) _ Q2 (show (2 : Nat) ≠ 0 by omega)) (show (2 : Nat) ≠ 1 by omega))
      clear hno r6 k6 ks hsz KW hgw hwr O0 O1
      go_wp2
      exact bodyPost_ret (v := .agg #[.bool GS, .slice au GL.length cu, .int .i64 GE]) (by simp [results, Tryz.results79, go_sem, G0, G1, G2]) rfl ⟨_, rfl, unhide R7, unhide K7⟩

set_option maxHeartbeats 8000000 in
theorem ivMatWide_spec {lo hi m : Nat} {v : Value} {ds : List DE} (n : Int) (w : World) (hw : WfD ds) (r : Ivs lo hi w v ds m) :
    Calls Tryz.prog 34 #[.agg #[.int .i64 n, v]] w fun e w' => ∃ v', e = .returned (.tuple #[.agg #[.bool (ansDS (imokB n ds m) (widV n ds) (-3000)), v', .int .i64 (ansDE (imokB n ds m) (widV n ds) (-3000))], .bool (ansDB (imokB n ds m) (widV n ds) (-3000))]) ∧ Row .i64 true w.heap.size w'.heap.size w' v' (ansDL (imokB n ds m) (widV n ds) (-3000)) ∧ Kept 0 0 w w' := by
  obtain ⟨W, hW⟩ : ∃ W, W = (w.alloc (.cells #[.int .i64 n, v] 28)).alloc (.cells #[.bool false, .slice none 0 0, .int .i64 0] 52) := ⟨_, rfl⟩
  have k0 : Kept 0 0 w W := by rw [hW]; exact ((Kept.refl 0 0 w).alloc _).alloc _
  have c0 : W.cell? ⟨w.heap.size, 0, none⟩ = some (.int .i64 n) := by rw [hW]; exact old_cell _ (new_cell2 _ _ _ _ _ _ (by simp) rfl)
  have c1 : W.cell? ⟨w.heap.size, 1, none⟩ = some v := by rw [hW]; exact old_cell _ (new_cell2 _ _ _ _ _ _ (by simp) rfl)
  have q0 : W.cell? ⟨w.heap.size + 1, 0, none⟩ = some (.bool false) := by rw [hW]; exact new_cell2 _ _ _ _ _ _ (by simp) rfl
  have f0 : W.frozen? ⟨w.heap.size + 1, 0, none⟩ = false := by rw [hW]; exact new_loose2 _ _ _ _ _ (by simp)
  have q1 : W.cell? ⟨w.heap.size + 1, 1, none⟩ = some (.slice none 0 0) := by rw [hW]; exact new_cell2 _ _ _ _ _ _ (by simp) rfl
  have f1 : W.frozen? ⟨w.heap.size + 1, 1, none⟩ = false := by rw [hW]; exact new_loose2 _ _ _ _ _ (by simp)
  have q2 : W.cell? ⟨w.heap.size + 1, 2, none⟩ = some (.int .i64 0) := by rw [hW]; exact new_cell2 _ _ _ _ _ _ (by simp) rfl
  have f2 : W.frozen? ⟨w.heap.size + 1, 2, none⟩ = false := by rw [hW]; exact new_loose2 _ _ _ _ _ (by simp)
  have sW : W.heap.size = w.heap.size + 2 := by rw [hW]; simp
  have r0 := r.kept k0 (by omega)
  have ho := ivMatOk_spec n W hw r0
  obtain ⟨a, c, rfl, -, -⟩ := r.form
  rw [hW] at ho
  clear r
  go_enter Tryz.func34, Tryz.ntmps34
  go_wp2_with fail
  rw [← hW] at ho ⊢
  clear hW
  refine ho.mono ?_
  rintro e w1 ⟨rfl, k1⟩
  replace f0 := k1.loose0 (World.block_lt_of_cell? _ _ q0) f0
  replace f1 := k1.loose0 (World.block_lt_of_cell? _ _ q1) f1
  replace f2 := k1.loose0 (World.block_lt_of_cell? _ _ q2) f2
  replace c0 := k1.cell0 c0
  replace c1 := k1.cell0 c1
  replace q0 := k1.cell0 q0
  replace q1 := k1.cell0 q1
  replace q2 := k1.cell0 q2
  replace r0 := r0.kept k1 (by omega)
  have K1 := hide (k0.trans k1)
  have z1 := k1.size
  clear ho k0 k1
  cases hk : imokB n ds m
  · have K7 := hide ((((unhide K1).setNew (p := ⟨w.heap.size + 1, 0, none⟩) (by simp) (.bool false)).setNew (p := ⟨w.heap.size + 1, 1, none⟩) (by simp) (.slice none 0 0)).setNew (p := ⟨w.heap.size + 1, 2, none⟩) (by simp) (.int .i64 0))
    have HB := hide hk
    clear r0 K1 hk
    go_wp2
    exact bodyPost_ret (v := .tuple #[.agg #[.bool false, .slice none 0 0, .int .i64 0], .bool false]) (by simp [results, Tryz.results34, go_sem, q0, q1, q2]) rfl ⟨.slice none 0 0, by rw [unhide HB]; rfl, by rw [unhide HB]; exact Row.nil _ _ _ _ _, unhide K7⟩
  obtain ⟨u1, u2, u3, U⟩ := imok_parts hk
  obtain ⟨k, rfl⟩ := Int.eq_ofNat_of_zero_le (show 0 ≤ n by omega)
  have hlen : m = k * k := by rw [← Int.natCast_mul] at u3; omega
  have hU : ∀ q, q < 2 * (k * k) → dOkE (ds.getD q de0) = true := fun p hp => U p (by omega)
  have htr := wide8_spec w1 (show 0 < k by omega) (show k ≤ 4 by omega) hlen U r0
  obtain ⟨V, hV⟩ : ∃ V, V = widM k ds := ⟨_, rfl⟩
  have hVl : V.natAbs < 2 ^ AA := by rw [hV]; exact mxV_lt k (fun q hq => widS_lt (by omega) hq (Nat.le_refl _) hU)
  have rg := dex_range V (-3000) (by decide) (by decide) hVl (by unfold AA; decide)
  obtain ⟨y1, y2, y3, y4⟩ := fits_ans (c := true) rfl V (-3000)
  obtain ⟨GB, hGB⟩ : ∃ y, ansDB true V (-3000) = y := ⟨_, rfl⟩
  obtain ⟨GS, hGS⟩ : ∃ y, ansDS true V (-3000) = y := ⟨_, rfl⟩
  obtain ⟨GL, hGL⟩ : ∃ y, ansDL true V (-3000) = y := ⟨_, rfl⟩
  obtain ⟨GE, hGE⟩ : ∃ y, ansDE true V (-3000) = y := ⟨_, rfl⟩
  have hft : ∀ v' w' lo', Row .i64 true lo' w'.heap.size w' v' (dlm V) → Calls Tryz.prog 78 #[.agg #[.bool (wsg V), v', .int .i64 (dex V (-3000))]] w' fun e w'' => ∃ v'', e = .returned (.tuple #[.agg #[.bool GS, v'', .int .i64 GE], .bool GB]) ∧ Row .i64 true lo' w''.heap.size w'' v'' GL ∧ Kept 0 0 w' w'' := fun v' w' lo' r' => by
    have := fits4_spec (wsg V) (dex V (-3000)) rg.1 rg.2 w' r'
    rw [y4, y1, y2, y3, hGB, hGS, hGL, hGE] at this
    exact this
  have HG := hide (show ansDB true (widV (k : Int) ds) (-3000) = GB ∧ ansDS true (widV (k : Int) ds) (-3000) = GS ∧ ansDL true (widV (k : Int) ds) (-3000) = GL ∧ ansDE true (widV (k : Int) ds) (-3000) = GE from ⟨by rw [← hGB, hV]; rfl, by rw [← hGS, hV]; rfl, by rw [← hGL, hV]; rfl, by rw [← hGE, hV]; rfl⟩)
  rw [← hV] at htr
  have htr' : Calls Tryz.prog 79 #[.agg #[.int .i64 (k : Int), .slice a m c]] w1 fun e w' => ∃ v', e = .returned (.agg #[.bool (wsg V), v', .int .i64 (dex V (-3000))]) ∧ Row .i64 true w1.heap.size w'.heap.size w' v' (dlm V) ∧ Kept 0 0 w1 w' := htr
  have HB := hide hk
  have HFT := hide hft
  obtain ⟨SV, hSV⟩ : ∃ q, q = wsg V := ⟨_, rfl⟩
  obtain ⟨ZV, hZV⟩ : ∃ q, q = dlm V := ⟨_, rfl⟩
  obtain ⟨XV, hXV⟩ : ∃ q, q = dex V (-3000) := ⟨_, rfl⟩
  rw [← hSV, ← hZV, ← hXV] at HFT htr'
  clear u1 u2 u3 U hlen hU hk r0 hw htr hV hVl rg y1 y2 y3 y4 hGB hGS hGL hGE hft hSV hZV hXV
  go_wp2_with fail
  refine htr'.mono ?_
  rintro e w3 ⟨v3, rfl, r3, k3⟩
  have hft := unhide HFT v3 w3 _ r3
  obtain ⟨a3, d3, hv3⟩ := Row.form' r3
  subst hv3
  replace f0 := k3.loose0 (World.block_lt_of_cell? _ _ q0) f0
  replace f1 := k3.loose0 (World.block_lt_of_cell? _ _ q1) f1
  replace f2 := k3.loose0 (World.block_lt_of_cell? _ _ q2) f2
  replace q0 := k3.cell0 q0
  replace q1 := k3.cell0 q1
  replace q2 := k3.cell0 q2
  have K3 := hide ((unhide K1).trans k3)
  have z3 := k3.size
  clear htr' r3 k3 K1 c0 c1 HFT
  go_wp2_with fail
  refine hft.mono ?_
  rintro e w6 ⟨v6, rfl, r6, k6⟩
  obtain ⟨a6, d6, hv6⟩ := Row.form' r6
  subst hv6
  replace f0 := k6.loose0 (World.block_lt_of_cell? _ _ q0) f0
  replace f1 := k6.loose0 (World.block_lt_of_cell? _ _ q1) f1
  replace f2 := k6.loose0 (World.block_lt_of_cell? _ _ q2) f2
  replace q0 := k6.cell0 q0
  replace q1 := k6.cell0 q1
  replace q2 := k6.cell0 q2
  have z6 := k6.size
  have K6 := (unhide K3).trans k6
  have R7 := hide ((((r6.set_other (p := ⟨w.heap.size + 1, 0, none⟩) (.inl (by dsimp only; omega)) (.bool GS)).set_other (p := ⟨w.heap.size + 1, 1, none⟩) (.inl (by dsimp only; omega)) (.slice a6 GL.length d6)).set_other (p := ⟨w.heap.size + 1, 2, none⟩) (.inl (by dsimp only; omega)) (.int .i64 GE)).tight.wider (lo' := w.heap.size) (by omega) (Nat.le_refl _))
  have K7 := hide (((K6.setNew (p := ⟨w.heap.size + 1, 0, none⟩) (by simp) (.bool GS)).setNew (p := ⟨w.heap.size + 1, 1, none⟩) (by simp) (.slice a6 GL.length d6)).setNew (p := ⟨w.heap.size + 1, 2, none⟩) (by simp) (.int .i64 GE))
  clear hft r6 k6 K3 K6
  go_wp2
  exact bodyPost_ret (v := .tuple #[.agg #[.bool GS, .slice a6 GL.length d6, .int .i64 GE], .bool GB]) (by simp [results, Tryz.results34, go_sem, q0, q1, q2]) rfl ⟨_, by rw [unhide HB, (unhide HG).1, (unhide HG).2.1, (unhide HG).2.2.2], by rw [unhide HB, (unhide HG).2.2.1]; exact unhide R7, unhide K7⟩

end Go.Proofs.YthahoabkehcgbaaGreatDoor
