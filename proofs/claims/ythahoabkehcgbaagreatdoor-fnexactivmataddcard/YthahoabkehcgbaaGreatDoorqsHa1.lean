/-
  Held intervals added, in the program.
-/
import Derived.Test.YthahoabkehcgbaaGreatDoorqsHf1
import Derived.Test.YthahoabkehcgbaaGreatDoorqsDys4
import Derived.Deep.DeepCutAuto
import Derived.Deep.RegionHeld3
namespace Go.Proofs.YthahoabkehcgbaaGreatDoor
open Go.RowKit
set_option linter.unusedVariables false
set_option maxRecDepth 8000
set_option linter.unusedSimpArgs false

/-- The sums of the ends, in units of 2 to the power -3000. -/
def adV (ds ds' : List DE) (q : Nat) : Int := dv (-3000) (ds.getD q de0) + dv (-3000) (ds'.getD q de0)
theorem adV_lt {ds ds' : List DE} {q : Nat} (h : dOkE (ds.getD q de0) = true) (h' : dOkE (ds'.getD q de0) = true) : (adV ds ds' q).natAbs < 2 ^ AA := by
  obtain ⟨B, hB⟩ : ∃ B : Nat, B = 7600 := ⟨_, rfl⟩
  exact lt_up (add_lt (dv_lt h hB) (dv_lt h' hB)) (by unfold AA; omega)

theorem in_heldPlus : ∀ (w : World) (args : Array Value), (callFunc 256 args).run Tryz.prog w = .ok (.enter 256 args) w := enters Tryz.func256 (by decide) (fun h => by cases h)

theorem in_plusH1 : ∀ (w : World) (args : Array Value), (callFunc 92 args).run Tryz.prog w = .ok (.enter 92 args) w := enters Tryz.func92 (by decide) (fun h => by cases h)

theorem heldPlus_is (r : Value) (w : World) : (method 367 79 r "loop.example/g00382/impl.plus").run Tryz.prog w = .ok (256, r) w := by kernel_rfl

set_option maxHeartbeats 8000000 in
theorem heldPlus_impl {V1 V2 V3 V4 : Int} {g1 g2 g3 g4 : Nat} {a1 a2 a3 a4 : DE} (w : World) (p1 : Pt w g1 a1) (p2 : Pt w g2 a2) (p3 : Pt w g3 a3) (p4 : Pt w g4 a4) (i1 : NV (-3000) V1 a1) (i2 : NV (-3000) V2 a2) (i3 : NV (-3000) V3 a3) (i4 : NV (-3000) V4 a4) (h1 : (V1 + V3).natAbs < 2 ^ AA) (h2 : (V2 + V4).natAbs < 2 ^ AA) :
    Calls Tryz.prog 256 #[.agg #[.pointer (some ⟨g1, 0, none⟩), .pointer (some ⟨g2, 0, none⟩)], .agg #[.pointer (some ⟨g3, 0, none⟩), .pointer (some ⟨g4, 0, none⟩)]] w fun e w' => ∃ t1 t2 mid d1 d2, e = .returned (.agg #[.pointer (some ⟨t1, 0, none⟩), .pointer (some ⟨t2, 0, none⟩)]) ∧ Dw w.heap.size mid w' t1 d1 ∧ Dw mid w'.heap.size w' t2 d2 ∧ NV (-3000) (V1 + V3) d1 ∧ NV (-3000) (V2 + V4) d2 ∧ w.heap.size ≤ mid ∧ mid ≤ w'.heap.size ∧ Kept 0 0 w w' := by
  obtain ⟨W, hW⟩ : ∃ W, W = ((w.alloc (.cells #[.pointer (some ⟨g1, 0, none⟩), .pointer (some ⟨g2, 0, none⟩)] 79)).alloc (.cells #[.pointer (some ⟨g3, 0, none⟩), .pointer (some ⟨g4, 0, none⟩)] 79)).alloc (.cells #[.pointer none, .pointer none] 79) := ⟨_, rfl⟩
  have k0 : Kept 0 0 w W := by rw [hW]; exact (((Kept.refl 0 0 w).alloc _).alloc _).alloc _
  have e0 : W.cell? ⟨w.heap.size, 0, none⟩ = some (.pointer (some ⟨g1, 0, none⟩)) := by rw [hW]; exact old_cell _ (old_cell _ (new_cell2 _ _ _ _ _ _ rfl rfl))
  have e1 : W.cell? ⟨w.heap.size, 1, none⟩ = some (.pointer (some ⟨g2, 0, none⟩)) := by rw [hW]; exact old_cell _ (old_cell _ (new_cell2 _ _ _ _ _ _ rfl rfl))
  have e2 : W.cell? ⟨w.heap.size + 1, 0, none⟩ = some (.pointer (some ⟨g3, 0, none⟩)) := by rw [hW]; exact old_cell _ (new_cell2 _ _ _ _ _ _ (by simp) rfl)
  have e3 : W.cell? ⟨w.heap.size + 1, 1, none⟩ = some (.pointer (some ⟨g4, 0, none⟩)) := by rw [hW]; exact old_cell _ (new_cell2 _ _ _ _ _ _ (by simp) rfl)
  have q0 : W.cell? ⟨w.heap.size + 2, 0, none⟩ = some (.pointer none) := by rw [hW]; exact new_cell2 _ _ _ _ _ _ (by simp) rfl
  have q1 : W.cell? ⟨w.heap.size + 2, 1, none⟩ = some (.pointer none) := by rw [hW]; exact new_cell2 _ _ _ _ _ _ (by simp) rfl
  have f0 : W.frozen? ⟨w.heap.size + 2, 0, none⟩ = false := by rw [hW]; exact new_loose2 _ _ _ _ _ (by simp)
  have f1 : W.frozen? ⟨w.heap.size + 2, 1, none⟩ = false := by rw [hW]; exact new_loose2 _ _ _ _ _ (by simp)
  have SW : Hid (W.heap.size = w.heap.size + 3) := by show _ = _; rw [hW]; simp
  have kz := (Kept.refl 0 0 W).drew
  have kd := k0.trans kz
  have P1 := hide (p1.kept kd)
  have P2 := hide (p2.kept kd)
  have P3 := hide (p3.kept kd)
  have P4 := hide (p4.kept kd)
  have I1 := hide i1
  have I2 := hide i2
  have I3 := hide i3
  have I4 := hide i4
  have H1 := hide h1
  have H2 := hide h2
  replace f0 := kz.loose0 (World.block_lt_of_cell? _ _ q0) f0
  replace f1 := kz.loose0 (World.block_lt_of_cell? _ _ q1) f1
  replace e0 := kz.cell0 e0
  replace e1 := kz.cell0 e1
  replace e2 := kz.cell0 e2
  replace e3 := kz.cell0 e3
  replace q0 := kz.cell0 q0
  replace q1 := kz.cell0 q1
  have KD := hide kd
  clear p1 p2 p3 p4 i1 i2 i3 i4 h1 h2 kd kz k0
  go_enter Tryz.func256, Tryz.ntmps256
  go_wp2_with fail
  rw [← hW]
  clear hW
  refine wp_region_held_drew (S := (fun w' => w'.cell? ⟨w.heap.size, 0, none⟩ = some (.pointer (some ⟨g1, 0, none⟩)) ∧ w'.cell? ⟨w.heap.size, 1, none⟩ = some (.pointer (some ⟨g2, 0, none⟩)) ∧ w'.cell? ⟨w.heap.size + 1, 0, none⟩ = some (.pointer (some ⟨g3, 0, none⟩)) ∧ w'.cell? ⟨w.heap.size + 1, 1, none⟩ = some (.pointer (some ⟨g4, 0, none⟩)))) (by kernel_rfl) ?_ (fun hHeld => ?_)
  · exact ⟨e0, e1, e2, e3⟩
  refine wpAnyH_take (i := 0) (oi := _) (v := .pointer (some ⟨w.heap.size, 0, none⟩)) rfl (by kernel_rfl) (by kernel_rfl) (by kernel_rfl) (fun _ _ _ h => h) (Or.inl ⟨by rfl, ?_⟩) hHeld ?_
  · intro wq hSw
    try dsimp only at hSw
    go_simp
  try simp only [Act.put, List.getElem_toArray, List.getElem_cons_succ, List.getElem_cons_zero, List.setIfInBounds_toArray, List.set_cons_zero, List.set_cons_succ]
  refine wpAnyH_take (i := 1) (oi := _) (v := .pointer (some ⟨g1, 0, none⟩)) rfl (by kernel_rfl) (by kernel_rfl) (by kernel_rfl) (fun _ _ _ h => h) (Or.inl ⟨by rfl, ?_⟩) hHeld ?_
  · intro wq hSw
    try dsimp only at hSw
    go_simp
  try simp only [Act.put, List.getElem_toArray, List.getElem_cons_succ, List.getElem_cons_zero, List.setIfInBounds_toArray, List.set_cons_zero, List.set_cons_succ]
  refine wpAnyH_take (i := 2) (oi := _) (v := .pointer (some ⟨w.heap.size + 1, 0, none⟩)) rfl (by kernel_rfl) (by kernel_rfl) (by kernel_rfl) (fun _ _ _ h => h) (Or.inl ⟨by rfl, ?_⟩) hHeld ?_
  · intro wq hSw
    try dsimp only at hSw
    go_simp
  try simp only [Act.put, List.getElem_toArray, List.getElem_cons_succ, List.getElem_cons_zero, List.setIfInBounds_toArray, List.set_cons_zero, List.set_cons_succ]
  refine wpAnyH_take (i := 3) (oi := _) (v := .pointer (some ⟨g3, 0, none⟩)) rfl (by kernel_rfl) (by kernel_rfl) (by kernel_rfl) (fun _ _ _ h => h) (Or.inl ⟨by rfl, ?_⟩) hHeld ?_
  · intro wq hSw
    try dsimp only at hSw
    go_simp
  try simp only [Act.put, List.getElem_toArray, List.getElem_cons_succ, List.getElem_cons_zero, List.setIfInBounds_toArray, List.set_cons_zero, List.set_cons_succ]
  refine wpAnyH_take (i := 5) (oi := _) (v := .pointer (some ⟨w.heap.size, 1, none⟩)) rfl (by kernel_rfl) (by kernel_rfl) (by kernel_rfl) (fun _ _ _ h => h) (Or.inl ⟨by rfl, ?_⟩) hHeld ?_
  · intro wq hSw
    try dsimp only at hSw
    go_simp
  try simp only [Act.put, List.getElem_toArray, List.getElem_cons_succ, List.getElem_cons_zero, List.setIfInBounds_toArray, List.set_cons_zero, List.set_cons_succ]
  refine wpAnyH_take (i := 6) (oi := _) (v := .pointer (some ⟨g2, 0, none⟩)) rfl (by kernel_rfl) (by kernel_rfl) (by kernel_rfl) (fun _ _ _ h => h) (Or.inl ⟨by rfl, ?_⟩) hHeld ?_
  · intro wq hSw
    try dsimp only at hSw
    go_simp
  try simp only [Act.put, List.getElem_toArray, List.getElem_cons_succ, List.getElem_cons_zero, List.setIfInBounds_toArray, List.set_cons_zero, List.set_cons_succ]
  refine wpAnyH_take (i := 7) (oi := _) (v := .pointer (some ⟨w.heap.size + 1, 1, none⟩)) rfl (by kernel_rfl) (by kernel_rfl) (by kernel_rfl) (fun _ _ _ h => h) (Or.inl ⟨by rfl, ?_⟩) hHeld ?_
  · intro wq hSw
    try dsimp only at hSw
    go_simp
  try simp only [Act.put, List.getElem_toArray, List.getElem_cons_succ, List.getElem_cons_zero, List.setIfInBounds_toArray, List.set_cons_zero, List.set_cons_succ]
  refine wpAnyH_take (i := 8) (oi := _) (v := .pointer (some ⟨g4, 0, none⟩)) rfl (by kernel_rfl) (by kernel_rfl) (by kernel_rfl) (fun _ _ _ h => h) (Or.inl ⟨by rfl, ?_⟩) hHeld ?_
  · intro wq hSw
    try dsimp only at hSw
    go_simp
  try simp only [Act.put, List.getElem_toArray, List.getElem_cons_succ, List.getElem_cons_zero, List.setIfInBounds_toArray, List.set_cons_zero, List.set_cons_succ]
  refine wpAnyH_ready (rs := [4]) (by kernel_rfl) (by simp) ?_
  refine AllReadyH.cons rfl (fun KK hK => ?_) AllReadyH.nil
  simp only [List.getElem_toArray, List.getElem_cons_succ, List.getElem_cons_zero]
  rw [if_pos (by rfl)]
  obtain ⟨u1, n1, s1, x1⟩ := unhide P1
  obtain ⟨u3, n3, s3, x3⟩ := unhide P3
  refine wps2 82 (.tmp 6) (.tmp 8) _ rfl in_plusD (.pointer (some ⟨g1, 0, none⟩)) (.pointer (some ⟨g3, 0, none⟩)) rfl rfl (plusD_impl _ (by decide) n1 s1 x1 n3 s3 x3 (unhide I1) (unhide I3) (unhide H1)) ?_
  rintro e w4 ⟨t4, d4, rfl, D4, nv4, k4⟩
  refine ⟨_, rfl, ?_⟩
  have W4 : Hid (Dw W.drew.heap.size w4.heap.size w4 t4 d4) := D4.dw
  have N4 := hide nv4
  replace P2 := hide ((unhide P2).kept k4)
  replace P4 := hide ((unhide P4).kept k4)
  have K4 := hide ((unhide KD).trans k4)
  replace f0 := k4.loose0 (World.block_lt_of_cell? _ _ q0) f0
  replace f1 := k4.loose0 (World.block_lt_of_cell? _ _ q1) f1
  replace e0 := k4.cell0 e0
  replace e1 := k4.cell0 e1
  replace e2 := k4.cell0 e2
  replace e3 := k4.cell0 e3
  replace q0 := k4.cell0 q0
  replace q1 := k4.cell0 q1
  have Z4 := hide k4.size
  clear n1 s1 x1 n3 s3 x3 D4 nv4 k4 KD P1 P3 I1 I3 H1
  clear hHeld
  refine hK.out _ _ ?_ (fun hHeld => ?_)
  · exact ⟨e0, e1, e2, e3⟩
  clear hK KK
  try simp only [Act.put, List.getElem_toArray, List.getElem_cons_succ, List.getElem_cons_zero, List.setIfInBounds_toArray, List.set_cons_zero, List.set_cons_succ]
  refine wpAnyH_ready (rs := [9]) (by kernel_rfl) (by simp) ?_
  refine AllReadyH.cons rfl (fun KK hK => ?_) AllReadyH.nil
  simp only [List.getElem_toArray, List.getElem_cons_succ, List.getElem_cons_zero]
  rw [if_pos (by rfl)]
  obtain ⟨u2, n2, s2, x2⟩ := unhide P2
  obtain ⟨u4, n4, s4, x4⟩ := unhide P4
  refine wps2 82 (.tmp 11) (.tmp 13) _ rfl in_plusD (.pointer (some ⟨g2, 0, none⟩)) (.pointer (some ⟨g4, 0, none⟩)) rfl rfl (plusD_impl _ (by decide) n2 s2 x2 n4 s4 x4 (unhide I2) (unhide I4) (unhide H2)) ?_
  rintro e w5 ⟨t5, d5, rfl, D5, nv5, k5⟩
  refine ⟨_, rfl, ?_⟩
  have W5 : Hid (Dw w4.heap.size w5.heap.size w5 t5 d5) := D5.dw
  have N5 := hide nv5
  replace W4 := hide (Dw.kept (unhide W4) k5)
  have K5 := hide ((unhide K4).trans k5)
  replace f0 := k5.loose0 (World.block_lt_of_cell? _ _ q0) f0
  replace f1 := k5.loose0 (World.block_lt_of_cell? _ _ q1) f1
  replace e0 := k5.cell0 e0
  replace e1 := k5.cell0 e1
  replace e2 := k5.cell0 e2
  replace e3 := k5.cell0 e3
  replace q0 := k5.cell0 q0
  replace q1 := k5.cell0 q1
  have Z5 := hide k5.size
  clear n2 s2 x2 n4 s4 x4 D5 nv5 k5 K4 P2 P4 I2 I4 H2
  clear hHeld
  refine hK.out _ _ ?_ (fun hHeld => ?_)
  · exact ⟨e0, e1, e2, e3⟩
  clear hK KK
  try simp only [Act.put, List.getElem_toArray, List.getElem_cons_succ, List.getElem_cons_zero, List.setIfInBounds_toArray, List.set_cons_zero, List.set_cons_succ]
  refine wpAnyH_take (i := 10) (oi := _) (v := .agg #[.pointer (some ⟨t4, 0, none⟩), .pointer (some ⟨t5, 0, none⟩)]) rfl (by kernel_rfl) (by kernel_rfl) (by kernel_rfl) (fun _ _ _ h => h) (Or.inl ⟨by rfl, ?_⟩) hHeld ?_
  · intro wq hSw
    try dsimp only at hSw
    go_simp
  try simp only [Act.put, List.getElem_toArray, List.getElem_cons_succ, List.getElem_cons_zero, List.setIfInBounds_toArray, List.set_cons_zero, List.set_cons_succ]
  refine wpAnyH_ready (rs := [11]) (by kernel_rfl) (by simp) ?_
  refine AllReadyH.cons rfl (fun KK hK => ?_) AllReadyH.nil
  simp only [List.getElem_toArray, List.getElem_cons_succ, List.getElem_cons_zero]
  rw [if_pos (by rfl)]
  go_simp
  have ks : Kept (w.heap.size + 2) (w.heap.size + 3) w5 ((w5.setCell ⟨w.heap.size + 2, 0, none⟩ (.pointer (some ⟨t4, 0, none⟩))).setCell ⟨w.heap.size + 2, 1, none⟩ (.pointer (some ⟨t5, 0, none⟩))) := ((Kept.refl _ _ _).setCell (p := ⟨w.heap.size + 2, 0, none⟩) (Nat.le_refl _) (Nat.lt_succ_self _) _).setCell (p := ⟨w.heap.size + 2, 1, none⟩) (Nat.le_refl _) (Nat.lt_succ_self _) _
  replace e0 := ks.cellOut (by dsimp only; omega) e0
  replace e1 := ks.cellOut (by dsimp only; omega) e1
  replace e2 := ks.cellOut (by dsimp only; omega) e2
  replace e3 := ks.cellOut (by dsimp only; omega) e3
  clear hHeld
  refine hK.out _ _ ?_ (fun hHeld => ?_)
  · exact ⟨e0, e1, e2, e3⟩
  clear hK KK
  try simp only [Act.put, List.getElem_toArray, List.getElem_cons_succ, List.getElem_cons_zero, List.setIfInBounds_toArray, List.set_cons_zero, List.set_cons_succ]
  refine wpAnyH_done (by kernel_rfl) ?_ _
  clear hHeld
  have sW := unhide SW
  have hdz : W.drew.heap.size = W.heap.size := rfl
  have z4 := unhide Z4
  have z5 := unhide Z5
  have G0 := cell_off _ _ _ 1 (.pointer (some ⟨t5, 0, none⟩)) _ (cell_on _ _ _ (.pointer (some ⟨t4, 0, none⟩)) _ q0) (show (0 : Nat) ≠ 1 by omega)
  have G1 := cell_on _ _ _ (.pointer (some ⟨t5, 0, none⟩)) _ (cell_off _ _ _ 0 (.pointer (some ⟨t4, 0, none⟩)) _ q1 (show (1 : Nat) ≠ 0 by omega))
  have hsz : ((w5.setCell ⟨w.heap.size + 2, 0, none⟩ (.pointer (some ⟨t4, 0, none⟩))).setCell ⟨w.heap.size + 2, 1, none⟩ (.pointer (some ⟨t5, 0, none⟩))).heap.size = w5.heap.size := by rw [size_set, size_set]
  have D9 : Hid (Dw w.heap.size w4.heap.size ((w5.setCell ⟨w.heap.size + 2, 0, none⟩ (.pointer (some ⟨t4, 0, none⟩))).setCell ⟨w.heap.size + 2, 1, none⟩ (.pointer (some ⟨t5, 0, none⟩))) t4 d4 ∧ Dw w4.heap.size ((w5.setCell ⟨w.heap.size + 2, 0, none⟩ (.pointer (some ⟨t4, 0, none⟩))).setCell ⟨w.heap.size + 2, 1, none⟩ (.pointer (some ⟨t5, 0, none⟩))).heap.size ((w5.setCell ⟨w.heap.size + 2, 0, none⟩ (.pointer (some ⟨t4, 0, none⟩))).setCell ⟨w.heap.size + 2, 1, none⟩ (.pointer (some ⟨t5, 0, none⟩))) t5 d5 ∧ w.heap.size ≤ w4.heap.size ∧ w4.heap.size ≤ ((w5.setCell ⟨w.heap.size + 2, 0, none⟩ (.pointer (some ⟨t4, 0, none⟩))).setCell ⟨w.heap.size + 2, 1, none⟩ (.pointer (some ⟨t5, 0, none⟩))).heap.size) :=
    ⟨((unhide W4).mod ks.toModW (fun x h1 h2 h => by omega)).wider (by omega) (Nat.le_refl _), ((unhide W5).mod ks.toModW (fun x h1 h2 h => by omega)).wider (Nat.le_refl _) (by omega), by omega, by omega⟩
  have K9 := hide ((unhide K5).wide ks (by omega))
  clear W4 W5 ks hdz hsz K5 z4 z5 sW Z4 Z5 e0 e1 e2 e3
  go_wp2
  exact bodyPost_ret (v := .agg #[.pointer (some ⟨t4, 0, none⟩), .pointer (some ⟨t5, 0, none⟩)]) (by simp [results, Tryz.results256, go_sem, G0, G1]) rfl ⟨t4, t5, w4.heap.size, d4, d5, rfl, (unhide D9).1, (unhide D9).2.1, unhide N4, unhide N5, (unhide D9).2.2.1, (unhide D9).2.2.2, unhide K9⟩

set_option maxHeartbeats 8000000 in
theorem plusH1_impl {R1 R2 n B i j r1 r2 G1 G2 G3 G4 : Nat} {Q1 Q2 : DE → Prop} (w : World) (hi' : i < n) (hj : j < n)
    (c0 : w.cell? ⟨B, 0, none⟩ = some (.slice (some ⟨R1, 0, none⟩) n n)) (c2 : w.cell? ⟨R1, i, none⟩ = some (.slice (some ⟨r1, 0, none⟩) n n)) (e0 : w.cell? ⟨r1, j * 2, none⟩ = some (.pointer (some ⟨G1, 0, none⟩))) (e1 : w.cell? ⟨r1, j * 2 + 1, none⟩ = some (.pointer (some ⟨G2, 0, none⟩)))
    (b0 : w.cell? ⟨B + 1, 0, none⟩ = some (.slice (some ⟨R2, 0, none⟩) n n)) (b2 : w.cell? ⟨R2, i, none⟩ = some (.slice (some ⟨r2, 0, none⟩) n n)) (x0 : w.cell? ⟨r2, j * 2, none⟩ = some (.pointer (some ⟨G3, 0, none⟩))) (x1 : w.cell? ⟨r2, j * 2 + 1, none⟩ = some (.pointer (some ⟨G4, 0, none⟩)))
    (H : ∀ w', Kept 0 0 w w' → Calls Tryz.prog 256 #[.agg #[.pointer (some ⟨G1, 0, none⟩), .pointer (some ⟨G2, 0, none⟩)], .agg #[.pointer (some ⟨G3, 0, none⟩), .pointer (some ⟨G4, 0, none⟩)]] w' fun e w'' => ∃ g1 g2 mid d1 d2, e = .returned (.agg #[.pointer (some ⟨g1, 0, none⟩), .pointer (some ⟨g2, 0, none⟩)]) ∧ Dw w'.heap.size mid w'' g1 d1 ∧ Dw mid w''.heap.size w'' g2 d2 ∧ Q1 d1 ∧ Q2 d2 ∧ w'.heap.size ≤ mid ∧ mid ≤ w''.heap.size ∧ Kept 0 0 w' w'') :
    Calls Tryz.prog 92 #[.int .i64 (i : Int), .int .i64 (j : Int), .pointer (some ⟨B, 0, none⟩), .pointer (some ⟨B + 1, 0, none⟩)] w fun e w' => ∃ g1 g2 mid d1 d2, e = .returned (.agg #[.pointer (some ⟨g1, 0, none⟩), .pointer (some ⟨g2, 0, none⟩)]) ∧ Dw w.heap.size mid w' g1 d1 ∧ Dw mid w'.heap.size w' g2 d2 ∧ Q1 d1 ∧ Q2 d2 ∧ w.heap.size ≤ mid ∧ mid ≤ w'.heap.size ∧ Kept 0 0 w w' := by
  obtain ⟨W, hW⟩ : ∃ W, W = w.alloc (.cells #[.pointer none, .pointer none] 79) := ⟨_, rfl⟩
  have k0 : Kept 0 0 w W := by rw [hW]; exact (Kept.refl 0 0 w).alloc _
  have q0 : W.cell? ⟨w.heap.size, 0, none⟩ = some (.pointer none) := by rw [hW]; exact new_cell2 _ _ _ _ _ _ rfl rfl
  have q1 : W.cell? ⟨w.heap.size, 1, none⟩ = some (.pointer none) := by rw [hW]; exact new_cell2 _ _ _ _ _ _ rfl rfl
  have f0 : W.frozen? ⟨w.heap.size, 0, none⟩ = false := by rw [hW]; exact new_loose2 _ _ _ _ _ rfl
  have f1 : W.frozen? ⟨w.heap.size, 1, none⟩ = false := by rw [hW]; exact new_loose2 _ _ _ _ _ rfl
  have SW : Hid (W.heap.size = w.heap.size + 1) := by show _ = _; rw [hW]; simp
  have kz := (Kept.refl 0 0 W).drew
  have kd := k0.trans kz
  have hd := H W.drew kd
  clear H
  have B_c0 := hide (World.block_lt_of_cell? _ _ c0)
  have B_c2 := hide (World.block_lt_of_cell? _ _ c2)
  have B_e0 := hide (World.block_lt_of_cell? _ _ e0)
  have B_e1 := hide (World.block_lt_of_cell? _ _ e1)
  have B_b0 := hide (World.block_lt_of_cell? _ _ b0)
  have B_b2 := hide (World.block_lt_of_cell? _ _ b2)
  have B_x0 := hide (World.block_lt_of_cell? _ _ x0)
  have B_x1 := hide (World.block_lt_of_cell? _ _ x1)
  replace c0 := kd.cell0 c0
  replace c2 := kd.cell0 c2
  replace e0 := kd.cell0 e0
  replace e1 := kd.cell0 e1
  replace b0 := kd.cell0 b0
  replace b2 := kd.cell0 b2
  replace x0 := kd.cell0 x0
  replace x1 := kd.cell0 x1
  replace f0 := kz.loose0 (World.block_lt_of_cell? _ _ q0) f0
  replace f1 := kz.loose0 (World.block_lt_of_cell? _ _ q1) f1
  replace q0 := kz.cell0 q0
  replace q1 := kz.cell0 q1
  have KD := hide kd
  clear kd kz k0
  go_enter Tryz.func92, Tryz.ntmps92
  go_wp2_with fail
  rw [← hW]
  clear hW
  refine wp_region_held_drew (S := (fun w' => w'.cell? ⟨B, 0, none⟩ = some (.slice (some ⟨R1, 0, none⟩) n n) ∧ w'.cell? ⟨R1, i, none⟩ = some (.slice (some ⟨r1, 0, none⟩) n n) ∧ w'.cell? ⟨r1, j * 2, none⟩ = some (.pointer (some ⟨G1, 0, none⟩)) ∧ w'.cell? ⟨r1, j * 2 + 1, none⟩ = some (.pointer (some ⟨G2, 0, none⟩)) ∧ w'.cell? ⟨B + 1, 0, none⟩ = some (.slice (some ⟨R2, 0, none⟩) n n) ∧ w'.cell? ⟨R2, i, none⟩ = some (.slice (some ⟨r2, 0, none⟩) n n) ∧ w'.cell? ⟨r2, j * 2, none⟩ = some (.pointer (some ⟨G3, 0, none⟩)) ∧ w'.cell? ⟨r2, j * 2 + 1, none⟩ = some (.pointer (some ⟨G4, 0, none⟩)))) (by kernel_rfl) ?_ (fun hHeld => ?_)
  · exact ⟨c0, c2, e0, e1, b0, b2, x0, x1⟩
  refine wpAnyH_take (i := 0) (oi := _) (v := .pointer (some ⟨B, 0, none⟩)) rfl (by kernel_rfl) (by kernel_rfl) (by kernel_rfl) (fun _ _ _ h => h) (Or.inl ⟨by rfl, ?_⟩) hHeld ?_
  · intro wq hSw
    try dsimp only at hSw
    go_simp
  try simp only [Act.put, List.getElem_toArray, List.getElem_cons_succ, List.getElem_cons_zero, List.setIfInBounds_toArray, List.set_cons_zero, List.set_cons_succ]
  refine wpAnyH_take (i := 1) (oi := _) (v := .slice (some ⟨R1, 0, none⟩) n n) rfl (by kernel_rfl) (by kernel_rfl) (by kernel_rfl) (fun _ _ _ h => h) (Or.inl ⟨by rfl, ?_⟩) hHeld ?_
  · intro wq hSw
    try dsimp only at hSw
    go_simp
  try simp only [Act.put, List.getElem_toArray, List.getElem_cons_succ, List.getElem_cons_zero, List.setIfInBounds_toArray, List.set_cons_zero, List.set_cons_succ]
  refine wpAnyH_take (i := 2) (oi := _) (v := .int .i64 (i : Int)) rfl (by kernel_rfl) (by kernel_rfl) (by kernel_rfl) (fun _ _ _ h => h) (Or.inl ⟨by rfl, ?_⟩) hHeld ?_
  · intro wq hSw
    try dsimp only at hSw
    go_simp
  try simp only [Act.put, List.getElem_toArray, List.getElem_cons_succ, List.getElem_cons_zero, List.setIfInBounds_toArray, List.set_cons_zero, List.set_cons_succ]
  refine wpAnyH_take (i := 3) (oi := _) (v := .pointer (some ⟨R1, i, none⟩)) rfl (by kernel_rfl) (by kernel_rfl) (by kernel_rfl) (fun _ _ _ h => h) (Or.inl ⟨by rfl, ?_⟩) hHeld ?_
  · intro wq hSw
    try dsimp only at hSw
    go_simp
  try simp only [Act.put, List.getElem_toArray, List.getElem_cons_succ, List.getElem_cons_zero, List.setIfInBounds_toArray, List.set_cons_zero, List.set_cons_succ]
  refine wpAnyH_take (i := 4) (oi := _) (v := .slice (some ⟨r1, 0, none⟩) n n) rfl (by kernel_rfl) (by kernel_rfl) (by kernel_rfl) (fun _ _ _ h => h) (Or.inl ⟨by rfl, ?_⟩) hHeld ?_
  · intro wq hSw
    try dsimp only at hSw
    go_simp
  try simp only [Act.put, List.getElem_toArray, List.getElem_cons_succ, List.getElem_cons_zero, List.setIfInBounds_toArray, List.set_cons_zero, List.set_cons_succ]
  refine wpAnyH_take (i := 5) (oi := _) (v := .int .i64 (j : Int)) rfl (by kernel_rfl) (by kernel_rfl) (by kernel_rfl) (fun _ _ _ h => h) (Or.inl ⟨by rfl, ?_⟩) hHeld ?_
  · intro wq hSw
    try dsimp only at hSw
    go_simp
  try simp only [Act.put, List.getElem_toArray, List.getElem_cons_succ, List.getElem_cons_zero, List.setIfInBounds_toArray, List.set_cons_zero, List.set_cons_succ]
  refine wpAnyH_take (i := 6) (oi := _) (v := .pointer (some ⟨r1, j * 2, none⟩)) rfl (by kernel_rfl) (by kernel_rfl) (by kernel_rfl) (fun _ _ _ h => h) (Or.inl ⟨by rfl, ?_⟩) hHeld ?_
  · intro wq hSw
    try dsimp only at hSw
    go_simp
  try simp only [Act.put, List.getElem_toArray, List.getElem_cons_succ, List.getElem_cons_zero, List.setIfInBounds_toArray, List.set_cons_zero, List.set_cons_succ]
  refine wpAnyH_take (i := 7) (oi := _) (v := .agg #[.pointer (some ⟨G1, 0, none⟩), .pointer (some ⟨G2, 0, none⟩)]) rfl (by kernel_rfl) (by kernel_rfl) (by kernel_rfl) (fun _ _ _ h => h) (Or.inl ⟨by rfl, ?_⟩) hHeld ?_
  · intro wq hSw
    try dsimp only at hSw
    go_simp
  try simp only [Act.put, List.getElem_toArray, List.getElem_cons_succ, List.getElem_cons_zero, List.setIfInBounds_toArray, List.set_cons_zero, List.set_cons_succ]
  refine wpAnyH_take (i := 8) (oi := _) (v := .iface 79 (.agg #[.pointer (some ⟨G1, 0, none⟩), .pointer (some ⟨G2, 0, none⟩)])) rfl (by kernel_rfl) (by kernel_rfl) (by kernel_rfl) (fun _ _ _ h => h) (Or.inl ⟨by rfl, ?_⟩) hHeld ?_
  · intro wq hSw
    try dsimp only at hSw
    go_simp
  try simp only [Act.put, List.getElem_toArray, List.getElem_cons_succ, List.getElem_cons_zero, List.setIfInBounds_toArray, List.set_cons_zero, List.set_cons_succ]
  refine wpAnyH_take (i := 9) (oi := _) (v := .pointer (some ⟨B + 1, 0, none⟩)) rfl (by kernel_rfl) (by kernel_rfl) (by kernel_rfl) (fun _ _ _ h => h) (Or.inl ⟨by rfl, ?_⟩) hHeld ?_
  · intro wq hSw
    try dsimp only at hSw
    go_simp
  try simp only [Act.put, List.getElem_toArray, List.getElem_cons_succ, List.getElem_cons_zero, List.setIfInBounds_toArray, List.set_cons_zero, List.set_cons_succ]
  refine wpAnyH_take (i := 10) (oi := _) (v := .slice (some ⟨R2, 0, none⟩) n n) rfl (by kernel_rfl) (by kernel_rfl) (by kernel_rfl) (fun _ _ _ h => h) (Or.inl ⟨by rfl, ?_⟩) hHeld ?_
  · intro wq hSw
    try dsimp only at hSw
    go_simp
  try simp only [Act.put, List.getElem_toArray, List.getElem_cons_succ, List.getElem_cons_zero, List.setIfInBounds_toArray, List.set_cons_zero, List.set_cons_succ]
  refine wpAnyH_take (i := 11) (oi := _) (v := .int .i64 (i : Int)) rfl (by kernel_rfl) (by kernel_rfl) (by kernel_rfl) (fun _ _ _ h => h) (Or.inl ⟨by rfl, ?_⟩) hHeld ?_
  · intro wq hSw
    try dsimp only at hSw
    go_simp
  try simp only [Act.put, List.getElem_toArray, List.getElem_cons_succ, List.getElem_cons_zero, List.setIfInBounds_toArray, List.set_cons_zero, List.set_cons_succ]
  refine wpAnyH_take (i := 12) (oi := _) (v := .pointer (some ⟨R2, i, none⟩)) rfl (by kernel_rfl) (by kernel_rfl) (by kernel_rfl) (fun _ _ _ h => h) (Or.inl ⟨by rfl, ?_⟩) hHeld ?_
  · intro wq hSw
    try dsimp only at hSw
    go_simp
  try simp only [Act.put, List.getElem_toArray, List.getElem_cons_succ, List.getElem_cons_zero, List.setIfInBounds_toArray, List.set_cons_zero, List.set_cons_succ]
  refine wpAnyH_take (i := 13) (oi := _) (v := .slice (some ⟨r2, 0, none⟩) n n) rfl (by kernel_rfl) (by kernel_rfl) (by kernel_rfl) (fun _ _ _ h => h) (Or.inl ⟨by rfl, ?_⟩) hHeld ?_
  · intro wq hSw
    try dsimp only at hSw
    go_simp
  try simp only [Act.put, List.getElem_toArray, List.getElem_cons_succ, List.getElem_cons_zero, List.setIfInBounds_toArray, List.set_cons_zero, List.set_cons_succ]
  refine wpAnyH_take (i := 14) (oi := _) (v := .int .i64 (j : Int)) rfl (by kernel_rfl) (by kernel_rfl) (by kernel_rfl) (fun _ _ _ h => h) (Or.inl ⟨by rfl, ?_⟩) hHeld ?_
  · intro wq hSw
    try dsimp only at hSw
    go_simp
  try simp only [Act.put, List.getElem_toArray, List.getElem_cons_succ, List.getElem_cons_zero, List.setIfInBounds_toArray, List.set_cons_zero, List.set_cons_succ]
  refine wpAnyH_take (i := 15) (oi := _) (v := .pointer (some ⟨r2, j * 2, none⟩)) rfl (by kernel_rfl) (by kernel_rfl) (by kernel_rfl) (fun _ _ _ h => h) (Or.inl ⟨by rfl, ?_⟩) hHeld ?_
  · intro wq hSw
    try dsimp only at hSw
    go_simp
  try simp only [Act.put, List.getElem_toArray, List.getElem_cons_succ, List.getElem_cons_zero, List.setIfInBounds_toArray, List.set_cons_zero, List.set_cons_succ]
  refine wpAnyH_take (i := 16) (oi := _) (v := .agg #[.pointer (some ⟨G3, 0, none⟩), .pointer (some ⟨G4, 0, none⟩)]) rfl (by kernel_rfl) (by kernel_rfl) (by kernel_rfl) (fun _ _ _ h => h) (Or.inl ⟨by rfl, ?_⟩) hHeld ?_
  · intro wq hSw
    try dsimp only at hSw
    go_simp
  try simp only [Act.put, List.getElem_toArray, List.getElem_cons_succ, List.getElem_cons_zero, List.setIfInBounds_toArray, List.set_cons_zero, List.set_cons_succ]
  refine wpAnyH_ready (rs := [17]) (by kernel_rfl) (by simp) ?_
  refine AllReadyH.cons rfl (fun KK hK => ?_) AllReadyH.nil
  simp only [List.getElem_toArray, List.getElem_cons_succ, List.getElem_cons_zero]
  rw [if_pos (by rfl)]
  refine wpi1 256 (.tmp 15) (.tmp 23) "loop.example/g00382/impl.plus" _ rfl 79 (.agg #[.pointer (some ⟨G1, 0, none⟩), .pointer (some ⟨G2, 0, none⟩)]) (.agg #[.pointer (some ⟨G1, 0, none⟩), .pointer (some ⟨G2, 0, none⟩)]) (.agg #[.pointer (some ⟨G3, 0, none⟩), .pointer (some ⟨G4, 0, none⟩)]) rfl rfl (by rw [fu_plus]; exact heldPlus_is _ _) in_heldPlus hd ?_
  rintro e w1 ⟨g1, g2, mid, d1, d2, rfl, D1, D2, hQ1, hQ2, m1, m2, k1⟩
  refine ⟨_, rfl, ?_⟩
  have D := hide (And.intro D1 (And.intro D2 (And.intro m1 m2)))
  have QQ := hide (And.intro hQ1 hQ2)
  have K1 := hide ((unhide KD).trans k1)
  replace c0 := k1.cell0 c0
  replace c2 := k1.cell0 c2
  replace e0 := k1.cell0 e0
  replace e1 := k1.cell0 e1
  replace b0 := k1.cell0 b0
  replace b2 := k1.cell0 b2
  replace x0 := k1.cell0 x0
  replace x1 := k1.cell0 x1
  replace f0 := k1.loose0 (World.block_lt_of_cell? _ _ q0) f0
  replace f1 := k1.loose0 (World.block_lt_of_cell? _ _ q1) f1
  replace q0 := k1.cell0 q0
  replace q1 := k1.cell0 q1
  clear hd D1 D2 m1 m2 hQ1 hQ2 k1 KD
  clear hHeld
  refine hK.out _ _ ?_ (fun hHeld => ?_)
  · exact ⟨c0, c2, e0, e1, b0, b2, x0, x1⟩
  clear hK KK
  try simp only [Act.put, List.getElem_toArray, List.getElem_cons_succ, List.getElem_cons_zero, List.setIfInBounds_toArray, List.set_cons_zero, List.set_cons_succ]
  refine wpAnyH_ready (rs := [18]) (by kernel_rfl) (by simp) ?_
  refine AllReadyH.cons rfl (fun KK hK => ?_) AllReadyH.nil
  simp only [List.getElem_toArray, List.getElem_cons_succ, List.getElem_cons_zero]
  rw [if_pos (by rfl)]
  go_simp
  have ks : Kept w.heap.size (w.heap.size + 1) w1 ((w1.setCell ⟨w.heap.size, 0, none⟩ (.pointer (some ⟨g1, 0, none⟩))).setCell ⟨w.heap.size, 1, none⟩ (.pointer (some ⟨g2, 0, none⟩))) := ((Kept.refl _ _ _).setCell (p := ⟨w.heap.size, 0, none⟩) (Nat.le_refl _) (Nat.lt_succ_self _) _).setCell (p := ⟨w.heap.size, 1, none⟩) (Nat.le_refl _) (Nat.lt_succ_self _) _
  replace c0 := ks.cellOut (by have := unhide B_c0; dsimp only at this ⊢; omega) c0
  replace c2 := ks.cellOut (by have := unhide B_c2; dsimp only at this ⊢; omega) c2
  replace e0 := ks.cellOut (by have := unhide B_e0; dsimp only at this ⊢; omega) e0
  replace e1 := ks.cellOut (by have := unhide B_e1; dsimp only at this ⊢; omega) e1
  replace b0 := ks.cellOut (by have := unhide B_b0; dsimp only at this ⊢; omega) b0
  replace b2 := ks.cellOut (by have := unhide B_b2; dsimp only at this ⊢; omega) b2
  replace x0 := ks.cellOut (by have := unhide B_x0; dsimp only at this ⊢; omega) x0
  replace x1 := ks.cellOut (by have := unhide B_x1; dsimp only at this ⊢; omega) x1
  clear hHeld
  refine hK.out _ _ ?_ (fun hHeld => ?_)
  · exact ⟨c0, c2, e0, e1, b0, b2, x0, x1⟩
  clear hK KK
  try simp only [Act.put, List.getElem_toArray, List.getElem_cons_succ, List.getElem_cons_zero, List.setIfInBounds_toArray, List.set_cons_zero, List.set_cons_succ]
  refine wpAnyH_done (by kernel_rfl) ?_ _
  clear hHeld
  have G0 := cell_off _ _ _ 1 (.pointer (some ⟨g2, 0, none⟩)) _ (cell_on _ _ _ (.pointer (some ⟨g1, 0, none⟩)) _ q0) (show (0 : Nat) ≠ 1 by omega)
  have G1 := cell_on _ _ _ (.pointer (some ⟨g2, 0, none⟩)) _ (cell_off _ _ _ 0 (.pointer (some ⟨g1, 0, none⟩)) _ q1 (show (1 : Nat) ≠ 0 by omega))
  have hsz : ((w1.setCell ⟨w.heap.size, 0, none⟩ (.pointer (some ⟨g1, 0, none⟩))).setCell ⟨w.heap.size, 1, none⟩ (.pointer (some ⟨g2, 0, none⟩))).heap.size = w1.heap.size := by rw [size_set, size_set]
  have dd := unhide D
  have sW := unhide SW
  have hdz : W.drew.heap.size = W.heap.size := rfl
  rw [hdz, sW] at dd
  have D9 : Hid (Dw w.heap.size mid ((w1.setCell ⟨w.heap.size, 0, none⟩ (.pointer (some ⟨g1, 0, none⟩))).setCell ⟨w.heap.size, 1, none⟩ (.pointer (some ⟨g2, 0, none⟩))) g1 (d1) ∧ Dw mid ((w1.setCell ⟨w.heap.size, 0, none⟩ (.pointer (some ⟨g1, 0, none⟩))).setCell ⟨w.heap.size, 1, none⟩ (.pointer (some ⟨g2, 0, none⟩))).heap.size ((w1.setCell ⟨w.heap.size, 0, none⟩ (.pointer (some ⟨g1, 0, none⟩))).setCell ⟨w.heap.size, 1, none⟩ (.pointer (some ⟨g2, 0, none⟩))) g2 (d2) ∧ w.heap.size ≤ mid ∧ mid ≤ ((w1.setCell ⟨w.heap.size, 0, none⟩ (.pointer (some ⟨g1, 0, none⟩))).setCell ⟨w.heap.size, 1, none⟩ (.pointer (some ⟨g2, 0, none⟩))).heap.size) :=
    ⟨(dd.1.mod ks.toModW (fun x h1 h2 h => by omega)).wider (by omega) (Nat.le_refl _), (dd.2.1.mod ks.toModW (fun x h1 h2 h => by omega)).wider (Nat.le_refl _) (by omega), by omega, by omega⟩
  have K9 := hide ((unhide K1).wide ks (Nat.le_refl _))
  clear D ks dd hdz hsz K1 sW
  clear c0 c2 e0 e1 b0 b2 x0 x1
  go_wp2
  exact bodyPost_ret (v := .agg #[.pointer (some ⟨g1, 0, none⟩), .pointer (some ⟨g2, 0, none⟩)]) (by simp [results, Tryz.results92, go_sem, G0, G1]) rfl ⟨g1, g2, mid, d1, d2, rfl, (unhide D9).1, (unhide D9).2.1, (unhide QQ).1, (unhide QQ).2, (unhide D9).2.2.1, (unhide D9).2.2.2, unhide K9⟩

set_option maxHeartbeats 8000000 in
theorem plusH_impl {R1 R2 n b1 b2 : Nat} {S1 S2 : Nat → Prop} {K1 K2 : Nat → Nat} {ds1 ds2 : List DE} (w : World) (hn : n ≤ 1000) (sq1 : SqH S1 w R1 n n K1) (nm1 : Nums b1 S1 w (2 * (n * n)) K1 (fun q => ds1.getD q de0)) (U1 : ∀ q, q < 2 * (n * n) → dOkE (ds1.getD q de0) = true) (sq2 : SqH S2 w R2 n n K2) (nm2 : Nums b2 S2 w (2 * (n * n)) K2 (fun q => ds2.getD q de0)) (U2 : ∀ q, q < 2 * (n * n) → dOkE (ds2.getD q de0) = true) :
    Calls Tryz.prog 43 #[.agg #[.slice (some ⟨R1, 0, none⟩) n n], .agg #[.slice (some ⟨R2, 0, none⟩) n n]] w fun e w' => ∃ R' G' S' F', e = .returned (.agg #[.slice (some ⟨R', 0, none⟩) n n]) ∧ SqH S' w' R' n n G' ∧ Nums w.heap.size S' w' (2 * (n * n)) G' F' ∧ (∀ q, q < 2 * (n * n) → NV (-3000) (adV ds1 ds2 q) (F' q)) ∧ Kept 0 0 w w' := by
  obtain ⟨W, hW⟩ : ∃ W, W = ((w.alloc (.cells #[.slice (some ⟨R1, 0, none⟩) n n] 76)).alloc (.cells #[.slice (some ⟨R2, 0, none⟩) n n] 76)).alloc (.cells #[.slice none 0 0] 76) := ⟨_, rfl⟩
  have k0 : Kept 0 0 w W := by rw [hW]; exact (((Kept.refl 0 0 w).alloc _).alloc _).alloc _
  have c0 : W.cell? ⟨w.heap.size, 0, none⟩ = some (.slice (some ⟨R1, 0, none⟩) n n) := by rw [hW]; exact old_cell _ (old_cell _ (new_cell_at _ _ _ _ rfl))
  have b0 : W.cell? ⟨w.heap.size + 1, 0, none⟩ = some (.slice (some ⟨R2, 0, none⟩) n n) := by rw [hW]; exact old_cell _ (new_cell_at _ _ _ _ (by simp))
  have q0 : W.cell? ⟨w.heap.size + 2, 0, none⟩ = some (.slice none 0 0) := by rw [hW]; exact new_cell2 _ _ _ _ _ _ (by simp) rfl
  have qf : W.frozen? ⟨w.heap.size + 2, 0, none⟩ = false := by rw [hW]; exact new_loose2 _ _ _ _ _ (by simp)
  have sW : W.heap.size = w.heap.size + 3 := by rw [hW]; simp
  have hm := makeSquareH_newQ (n := n) hn 92 in_plusH1 #[.pointer (some ⟨w.heap.size, 0, none⟩), .pointer (some ⟨w.heap.size + 1, 0, none⟩)] (fun q d => NV (-3000) (adV ds1 ds2 q) d) W (fun i j w' hi hj k => by
    have kk := k0.trans k
    have hp := place_lt hi hj
    obtain ⟨r1, cr1, -, -, -, z1⟩ := sq1.2.2 i hi
    obtain ⟨r2, cr2, -, -, -, z2⟩ := sq2.2.2 i hi
    obtain ⟨x1, x2⟩ := z1 j hj
    obtain ⟨x3, x4⟩ := z2 j hj
    exact plusH1_impl (B := w.heap.size) (Q1 := NV (-3000) (adV ds1 ds2 (2 * (i * n + j)))) (Q2 := NV (-3000) (adV ds1 ds2 (2 * (i * n + j) + 1))) w' hi hj (k.cell0 c0) (kk.cell0 cr1) (kk.cell0 x1) (kk.cell0 x2) (k.cell0 b0) (kk.cell0 cr2) (kk.cell0 x3) (kk.cell0 x4) (fun w'' k' =>
      heldPlus_impl w'' ((show Pt w (K1 (2 * (i * n + j))) (ds1.getD (2 * (i * n + j)) de0) from nm1.at (by omega)).kept (kk.trans k')) ((show Pt w (K1 (2 * (i * n + j) + 1)) (ds1.getD (2 * (i * n + j) + 1) de0) from nm1.at (by omega)).kept (kk.trans k')) ((show Pt w (K2 (2 * (i * n + j))) (ds2.getD (2 * (i * n + j)) de0) from nm2.at (by omega)).kept (kk.trans k')) ((show Pt w (K2 (2 * (i * n + j) + 1)) (ds2.getD (2 * (i * n + j) + 1) de0) from nm2.at (by omega)).kept (kk.trans k')) (dok_nv (U1 _ (by omega)) (Int.le_refl (-3000))) (dok_nv (U1 _ (by omega)) (Int.le_refl (-3000))) (dok_nv (U2 _ (by omega)) (Int.le_refl (-3000))) (dok_nv (U2 _ (by omega)) (Int.le_refl (-3000))) (adV_lt (U1 _ (by omega)) (U2 _ (by omega))) (adV_lt (U1 _ (by omega)) (U2 _ (by omega)))))
  rw [hW] at hm c0
  have SW := hide sW
  clear sW b0 sq1 nm1 U1 sq2 nm2 U2
  go_enter Tryz.func43, Tryz.ntmps43
  go_wp2_with fail
  refine hm.mono ?_
  rw [← hW]
  rintro e w1 ⟨R', G', S', F', rfl, sq, nm, hQ, hS, hR, k1⟩
  have q1 := k1.cell0 q0
  have qf1 := k1.loose0 (World.block_lt_of_cell? _ _ q0) qf
  have sW := unhide SW
  have E1 := cell_on w1 (w.heap.size + 2) 0 (.slice (some ⟨R', 0, none⟩) n n) _ q1
  have ks : Kept (w.heap.size + 2) (w.heap.size + 2 + 1) w1 (w1.setCell ⟨w.heap.size + 2, 0, none⟩ (.slice (some ⟨R', 0, none⟩) n n)) := (Kept.refl _ _ _).setCell (p := ⟨w.heap.size + 2, 0, none⟩) (Nat.le_refl _) (Nat.lt_succ_self _) _
  have S2 : Hid (SqH S' (w1.setCell ⟨w.heap.size + 2, 0, none⟩ (.slice (some ⟨R', 0, none⟩) n n)) R' n n G' ∧ Nums w.heap.size S' (w1.setCell ⟨w.heap.size + 2, 0, none⟩ (.slice (some ⟨R', 0, none⟩) n n)) (2 * (n * n)) G' F') :=
    ⟨sq.keptY ks (by omega), (nm.win ks (by omega)).less (by omega)⟩
  have K2 := hide ((k0.trans k1).wide ks (by omega))
  have NQ := hide hQ
  clear hm sq nm hQ hS hR k1 ks sW q0 qf c0
  go_wp2
  exact bodyPost_ret (v := .agg #[.slice (some ⟨R', 0, none⟩) n n]) (by simp [results, Tryz.results43, go_sem, E1]) rfl ⟨R', G', S', F', rfl, (unhide S2).1, (unhide S2).2, unhide NQ, unhide K2⟩

end Go.Proofs.YthahoabkehcgbaaGreatDoor

