/-
  IvMatMid of the program.
-/
import Derived.Test.YthahoabkehcgbaaGreatDoorqfWid1
import Derived.Test.YthahoabkehcgbaaGreatDoorqfDys6
namespace Go.Proofs.YthahoabkehcgbaaGreatDoor
open Go.RowKit
set_option linter.unusedVariables false
set_option maxRecDepth 8000
set_option linter.unusedSimpArgs false

theorem Dw.kept {lo hi : Nat} {w w' : World} {g : Nat} {d : DE} (h : Dw lo hi w g d) (k : Kept 0 0 w w') : Dw lo hi w' g d := h.mod (k.toMod (S := fun _ => False)) (fun _ _ _ h => h)
theorem Kept.toModW {l h : Nat} {a b : World} (k : Kept l h a b) : Mod (fun x => l ≤ x ∧ x < h) a b := ⟨k.os, k.tape, k.output, k.size, fun i h1 h2 => k.block i h1 (by omega)⟩
theorem Dw.wider {lo hi lo' hi' : Nat} {w : World} {g : Nat} {d : DE} (h : Dw lo hi w g d) (h1 : lo' ≤ lo) (h2 : hi ≤ hi') : Dw lo' hi' w g d := by
  obtain ⟨u, n, s, e, x1, x2, x3⟩ := h
  exact ⟨u, n, s, e, by omega, by omega, fun i hi => by have := x3 i hi; omega⟩
theorem Dw.parts {lo hi : Nat} {w : World} {g : Nat} {d : DE} (h : Dw lo hi w g d) : ∃ u, Num 0 w g u d.2.1 ∧ Sd w g d.1 ∧ Ex w g d.2.2 := by
  obtain ⟨u, n, s, e, -⟩ := h
  exact ⟨u, n, s, e⟩

set_option maxHeartbeats 8000000 in
theorem heldOf_impl {lo0 hi0 lo1 hi1 : Nat} {u0 u1 : Value} {z0 z1 : List Int} (s0 s1 : Bool) (y0 y1 : Int) (w : World) (r0 : Row .i64 false lo0 hi0 w u0 z0) (r1 : Row .i64 false lo1 hi1 w u1 z1) (hl0 : z0.length ≤ 1000000) (hl1 : z1.length ≤ 1000000) :
    Calls Tryz.prog 72 #[.agg #[.bool s0, u0, .int .i64 y0, .bool s1, u1, .int .i64 y1]] w fun e w' => ∃ g1 g2 mid, e = .returned (.agg #[.pointer (some ⟨g1, 0, none⟩), .pointer (some ⟨g2, 0, none⟩)]) ∧ Dw w.heap.size mid w' g1 (s0, z0, y0) ∧ Dw mid w'.heap.size w' g2 (s1, z1, y1) ∧ w.heap.size ≤ mid ∧ mid ≤ w'.heap.size ∧ Kept 0 0 w w' := by
  obtain ⟨a0, c0, hv⟩ := Row.form' r0
  subst hv
  obtain ⟨a1, c1, hv⟩ := Row.form' r1
  subst hv
  have kA : Kept 0 0 w ((w.alloc (.cells #[.bool s0, .slice a0 z0.length c0, .int .i64 y0, .bool s1, .slice a1 z1.length c1, .int .i64 y1] 102)).alloc (.cells #[.pointer none, .pointer none] 79)) := ((Kept.refl 0 0 w).alloc _).alloc _
  have e0 : ((w.alloc (.cells #[.bool s0, .slice a0 z0.length c0, .int .i64 y0, .bool s1, .slice a1 z1.length c1, .int .i64 y1] 102)).alloc (.cells #[.pointer none, .pointer none] 79)).cell? ⟨w.heap.size, 0, none⟩ = some (.bool s0) := old_cell _ (new_cell2 _ _ _ _ _ _ rfl rfl)
  have e1 : ((w.alloc (.cells #[.bool s0, .slice a0 z0.length c0, .int .i64 y0, .bool s1, .slice a1 z1.length c1, .int .i64 y1] 102)).alloc (.cells #[.pointer none, .pointer none] 79)).cell? ⟨w.heap.size, 1, none⟩ = some (.slice a0 z0.length c0) := old_cell _ (new_cell2 _ _ _ _ _ _ rfl rfl)
  have e2 : ((w.alloc (.cells #[.bool s0, .slice a0 z0.length c0, .int .i64 y0, .bool s1, .slice a1 z1.length c1, .int .i64 y1] 102)).alloc (.cells #[.pointer none, .pointer none] 79)).cell? ⟨w.heap.size, 2, none⟩ = some (.int .i64 y0) := old_cell _ (new_cell2 _ _ _ _ _ _ rfl rfl)
  have e3 : ((w.alloc (.cells #[.bool s0, .slice a0 z0.length c0, .int .i64 y0, .bool s1, .slice a1 z1.length c1, .int .i64 y1] 102)).alloc (.cells #[.pointer none, .pointer none] 79)).cell? ⟨w.heap.size, 3, none⟩ = some (.bool s1) := old_cell _ (new_cell2 _ _ _ _ _ _ rfl rfl)
  have e4 : ((w.alloc (.cells #[.bool s0, .slice a0 z0.length c0, .int .i64 y0, .bool s1, .slice a1 z1.length c1, .int .i64 y1] 102)).alloc (.cells #[.pointer none, .pointer none] 79)).cell? ⟨w.heap.size, 4, none⟩ = some (.slice a1 z1.length c1) := old_cell _ (new_cell2 _ _ _ _ _ _ rfl rfl)
  have e5 : ((w.alloc (.cells #[.bool s0, .slice a0 z0.length c0, .int .i64 y0, .bool s1, .slice a1 z1.length c1, .int .i64 y1] 102)).alloc (.cells #[.pointer none, .pointer none] 79)).cell? ⟨w.heap.size, 5, none⟩ = some (.int .i64 y1) := old_cell _ (new_cell2 _ _ _ _ _ _ rfl rfl)
  have q0 : ((w.alloc (.cells #[.bool s0, .slice a0 z0.length c0, .int .i64 y0, .bool s1, .slice a1 z1.length c1, .int .i64 y1] 102)).alloc (.cells #[.pointer none, .pointer none] 79)).cell? ⟨w.heap.size + 1, 0, none⟩ = some (.pointer none) := new_cell2 _ _ _ _ _ _ (by simp) rfl
  have q1 : ((w.alloc (.cells #[.bool s0, .slice a0 z0.length c0, .int .i64 y0, .bool s1, .slice a1 z1.length c1, .int .i64 y1] 102)).alloc (.cells #[.pointer none, .pointer none] 79)).cell? ⟨w.heap.size + 1, 1, none⟩ = some (.pointer none) := new_cell2 _ _ _ _ _ _ (by simp) rfl
  have f0 : ((w.alloc (.cells #[.bool s0, .slice a0 z0.length c0, .int .i64 y0, .bool s1, .slice a1 z1.length c1, .int .i64 y1] 102)).alloc (.cells #[.pointer none, .pointer none] 79)).frozen? ⟨w.heap.size + 1, 0, none⟩ = false := new_loose2 _ _ _ _ _ (by simp)
  have f1 : ((w.alloc (.cells #[.bool s0, .slice a0 z0.length c0, .int .i64 y0, .bool s1, .slice a1 z1.length c1, .int .i64 y1] 102)).alloc (.cells #[.pointer none, .pointer none] 79)).frozen? ⟨w.heap.size + 1, 1, none⟩ = false := new_loose2 _ _ _ _ _ (by simp)
  have sA : ((w.alloc (.cells #[.bool s0, .slice a0 z0.length c0, .int .i64 y0, .bool s1, .slice a1 z1.length c1, .int .i64 y1] 102)).alloc (.cells #[.pointer none, .pointer none] 79)).heap.size = w.heap.size + 2 := by simp
  replace r0 := r0.kept kA (.inr (.inr (Nat.le_refl 0)))
  replace r1 := r1.kept kA (.inr (.inr (Nat.le_refl 0)))
  have R0 := hide r0
  have R1 := hide r1
  have KA := hide kA
  have SA := hide sA
  clear r0 r1 kA sA
  go_enter Tryz.func72, Tryz.ntmps72
  go_wp2_with fail
  generalize ((w.alloc (.cells #[.bool s0, .slice a0 z0.length c0, .int .i64 y0, .bool s1, .slice a1 z1.length c1, .int .i64 y1] 102)).alloc (.cells #[.pointer none, .pointer none] 79)) = W at *
  have kd := (Kept.refl 0 0 W).drew
  have hdr : W.drew.heap.size = W.heap.size := rfl
  replace e0 := kd.cell0 e0
  replace e1 := kd.cell0 e1
  replace e2 := kd.cell0 e2
  replace e3 := kd.cell0 e3
  replace e4 := kd.cell0 e4
  replace e5 := kd.cell0 e5
  replace f0 := kd.loose0 (World.block_lt_of_cell? _ _ q0) f0
  replace f1 := kd.loose0 (World.block_lt_of_cell? _ _ q1) f1
  replace q0 := kd.cell0 q0
  replace q1 := kd.cell0 q1
  replace R0 := hide ((unhide R0).kept kd (.inr (.inr (Nat.le_refl 0))))
  replace R1 := hide ((unhide R1).kept kd (.inr (.inr (Nat.le_refl 0))))
  have KD := hide ((unhide KA).trans kd)
  clear kd KA
  refine wp_region_held_drew (S := (fun w' => w'.cell? ⟨w.heap.size, 0, none⟩ = some (.bool s0) ∧ w'.cell? ⟨w.heap.size, 1, none⟩ = some (.slice a0 z0.length c0) ∧ w'.cell? ⟨w.heap.size, 2, none⟩ = some (.int .i64 y0) ∧ w'.cell? ⟨w.heap.size, 3, none⟩ = some (.bool s1) ∧ w'.cell? ⟨w.heap.size, 4, none⟩ = some (.slice a1 z1.length c1) ∧ w'.cell? ⟨w.heap.size, 5, none⟩ = some (.int .i64 y1))) (by kernel_rfl) ?_ (fun hHeld => ?_)
  · exact ⟨e0, e1, e2, e3, e4, e5⟩
  refine wpAnyH_take (i := 0) (oi := _) (v := .pointer (some ⟨w.heap.size, 0, none⟩)) rfl (by kernel_rfl) (by kernel_rfl) (by kernel_rfl) (fun _ _ _ h => h) (Or.inl ⟨by rfl, ?_⟩) hHeld ?_
  · intro wq hSw
    try dsimp only at hSw
    go_simp
  try simp only [Act.put, List.getElem_toArray, List.getElem_cons_succ, List.getElem_cons_zero, List.setIfInBounds_toArray, List.set_cons_zero, List.set_cons_succ]
  refine wpAnyH_take (i := 1) (oi := _) (v := .agg #[.bool s0, .slice a0 z0.length c0, .int .i64 y0]) rfl (by kernel_rfl) (by kernel_rfl) (by kernel_rfl) (fun _ _ _ h => h) (Or.inl ⟨by rfl, ?_⟩) hHeld ?_
  · intro wq hSw
    try dsimp only at hSw
    go_simp
  try simp only [Act.put, List.getElem_toArray, List.getElem_cons_succ, List.getElem_cons_zero, List.setIfInBounds_toArray, List.set_cons_zero, List.set_cons_succ]
  refine wpAnyH_take (i := 3) (oi := _) (v := .pointer (some ⟨w.heap.size, 3, none⟩)) rfl (by kernel_rfl) (by kernel_rfl) (by kernel_rfl) (fun _ _ _ h => h) (Or.inl ⟨by rfl, ?_⟩) hHeld ?_
  · intro wq hSw
    try dsimp only at hSw
    go_simp
  try simp only [Act.put, List.getElem_toArray, List.getElem_cons_succ, List.getElem_cons_zero, List.setIfInBounds_toArray, List.set_cons_zero, List.set_cons_succ]
  refine wpAnyH_take (i := 4) (oi := _) (v := .agg #[.bool s1, .slice a1 z1.length c1, .int .i64 y1]) rfl (by kernel_rfl) (by kernel_rfl) (by kernel_rfl) (fun _ _ _ h => h) (Or.inl ⟨by rfl, ?_⟩) hHeld ?_
  · intro wq hSw
    try dsimp only at hSw
    go_simp
  try simp only [Act.put, List.getElem_toArray, List.getElem_cons_succ, List.getElem_cons_zero, List.setIfInBounds_toArray, List.set_cons_zero, List.set_cons_succ]
  refine wpAnyH_ready (rs := [2]) (by kernel_rfl) (by simp) ?_
  refine AllReadyH.cons rfl (fun KK hK => ?_) AllReadyH.nil
  simp only [List.getElem_toArray, List.getElem_cons_succ, List.getElem_cons_zero]
  rw [if_pos (by rfl)]
  refine wps1 65 (.tmp 4) _ rfl in_newDyadic (.agg #[.bool s0, .slice a0 z0.length c0, .int .i64 y0]) rfl (newDyadic_impl s0 y0 _ (unhide R0) hl0) ?_
  rintro e w1 ⟨g1, rfl, D1, k1⟩
  refine ⟨_, rfl, ?_⟩
  have P1 := hide D1.dw
  have K1 := hide ((unhide KD).trans k1)
  replace R1 := hide ((unhide R1).kept k1 (.inr (.inr (Nat.le_refl 0))))
  have Z1 := k1.size
  replace f0 := k1.loose0 (World.block_lt_of_cell? _ _ q0) f0
  replace f1 := k1.loose0 (World.block_lt_of_cell? _ _ q1) f1
  replace e0 := k1.cell0 e0
  replace e1 := k1.cell0 e1
  replace e2 := k1.cell0 e2
  replace e3 := k1.cell0 e3
  replace e4 := k1.cell0 e4
  replace e5 := k1.cell0 e5
  replace q0 := k1.cell0 q0
  replace q1 := k1.cell0 q1
  clear D1 k1 KD R0
  clear hHeld
  refine hK.out _ _ ?_ (fun hHeld => ?_)
  · exact ⟨e0, e1, e2, e3, e4, e5⟩
  clear hK KK
  try simp only [Act.put, List.getElem_toArray, List.getElem_cons_succ, List.getElem_cons_zero, List.setIfInBounds_toArray, List.set_cons_zero, List.set_cons_succ]
  refine wpAnyH_ready (rs := [5]) (by kernel_rfl) (by simp) ?_
  refine AllReadyH.cons rfl (fun KK hK => ?_) AllReadyH.nil
  simp only [List.getElem_toArray, List.getElem_cons_succ, List.getElem_cons_zero]
  rw [if_pos (by rfl)]
  refine wps1 65 (.tmp 7) _ rfl in_newDyadic (.agg #[.bool s1, .slice a1 z1.length c1, .int .i64 y1]) rfl (newDyadic_impl s1 y1 _ (unhide R1) hl1) ?_
  rintro e w2 ⟨g2, rfl, D2, k2⟩
  refine ⟨_, rfl, ?_⟩
  have P2 := hide D2.dw
  replace P1 := hide ((unhide P1).kept k2)
  have K2 := hide ((unhide K1).trans k2)
  have Z2 := k2.size
  replace f0 := k2.loose0 (World.block_lt_of_cell? _ _ q0) f0
  replace f1 := k2.loose0 (World.block_lt_of_cell? _ _ q1) f1
  replace e0 := k2.cell0 e0
  replace e1 := k2.cell0 e1
  replace e2 := k2.cell0 e2
  replace e3 := k2.cell0 e3
  replace e4 := k2.cell0 e4
  replace e5 := k2.cell0 e5
  replace q0 := k2.cell0 q0
  replace q1 := k2.cell0 q1
  clear D2 k2 K1 R1
  clear hHeld
  refine hK.out _ _ ?_ (fun hHeld => ?_)
  · exact ⟨e0, e1, e2, e3, e4, e5⟩
  clear hK KK
  try simp only [Act.put, List.getElem_toArray, List.getElem_cons_succ, List.getElem_cons_zero, List.setIfInBounds_toArray, List.set_cons_zero, List.set_cons_succ]
  refine wpAnyH_take (i := 6) (oi := _) (v := .agg #[.pointer (some ⟨g1, 0, none⟩), .pointer (some ⟨g2, 0, none⟩)]) rfl (by kernel_rfl) (by kernel_rfl) (by kernel_rfl) (fun _ _ _ h => h) (Or.inl ⟨by rfl, ?_⟩) hHeld ?_
  · intro wq hSw
    try dsimp only at hSw
    go_simp
  try simp only [Act.put, List.getElem_toArray, List.getElem_cons_succ, List.getElem_cons_zero, List.setIfInBounds_toArray, List.set_cons_zero, List.set_cons_succ]
  refine wpAnyH_ready (rs := [7]) (by kernel_rfl) (by simp) ?_
  refine AllReadyH.cons rfl (fun KK hK => ?_) AllReadyH.nil
  simp only [List.getElem_toArray, List.getElem_cons_succ, List.getElem_cons_zero]
  rw [if_pos (by rfl)]
  go_simp
  clear hHeld
  refine hK.out _ _ ?_ (fun hHeld => ?_)
  · exact ⟨(cell_aside _ (by dsimp only; omega) (cell_aside _ (by dsimp only; omega) e0)), (cell_aside _ (by dsimp only; omega) (cell_aside _ (by dsimp only; omega) e1)), (cell_aside _ (by dsimp only; omega) (cell_aside _ (by dsimp only; omega) e2)), (cell_aside _ (by dsimp only; omega) (cell_aside _ (by dsimp only; omega) e3)), (cell_aside _ (by dsimp only; omega) (cell_aside _ (by dsimp only; omega) e4)), (cell_aside _ (by dsimp only; omega) (cell_aside _ (by dsimp only; omega) e5))⟩
  clear hK KK
  try simp only [Act.put, List.getElem_toArray, List.getElem_cons_succ, List.getElem_cons_zero, List.setIfInBounds_toArray, List.set_cons_zero, List.set_cons_succ]
  refine wpAnyH_done (by kernel_rfl) ?_ _
  clear hHeld
  have sA := unhide SA
  have G0 := cell_off _ _ _ 1 (.pointer (some ⟨g2, 0, none⟩)) _ (cell_on _ _ _ (.pointer (some ⟨g1, 0, none⟩)) _ q0) (show (0 : Nat) ≠ 1 by omega)
  have G1 := cell_on _ _ _ (.pointer (some ⟨g2, 0, none⟩)) _ (cell_off _ _ _ 0 (.pointer (some ⟨g1, 0, none⟩)) _ q1 (show (1 : Nat) ≠ 0 by omega))
  have ks : Kept (w.heap.size + 1) (w.heap.size + 2) w2 ((w2.setCell ⟨w.heap.size + 1, 0, none⟩ (.pointer (some ⟨g1, 0, none⟩))).setCell ⟨w.heap.size + 1, 1, none⟩ (.pointer (some ⟨g2, 0, none⟩))) := ((Kept.refl _ _ _).setCell (p := ⟨w.heap.size + 1, 0, none⟩) (Nat.le_refl _) (Nat.lt_succ_self _) _).setCell (p := ⟨w.heap.size + 1, 1, none⟩) (Nat.le_refl _) (Nat.lt_succ_self _) _
  have hsz : ((w2.setCell ⟨w.heap.size + 1, 0, none⟩ (.pointer (some ⟨g1, 0, none⟩))).setCell ⟨w.heap.size + 1, 1, none⟩ (.pointer (some ⟨g2, 0, none⟩))).heap.size = w2.heap.size := by rw [size_set, size_set]
  have F1 : Hid (Dw w.heap.size w1.heap.size ((w2.setCell ⟨w.heap.size + 1, 0, none⟩ (.pointer (some ⟨g1, 0, none⟩))).setCell ⟨w.heap.size + 1, 1, none⟩ (.pointer (some ⟨g2, 0, none⟩))) g1 (s0, z0, y0)) := ((unhide P1).mod ks.toModW (fun x hx _ h => by omega)).wider (by omega) (Nat.le_refl _)
  have F2 : Hid (Dw w1.heap.size ((w2.setCell ⟨w.heap.size + 1, 0, none⟩ (.pointer (some ⟨g1, 0, none⟩))).setCell ⟨w.heap.size + 1, 1, none⟩ (.pointer (some ⟨g2, 0, none⟩))).heap.size ((w2.setCell ⟨w.heap.size + 1, 0, none⟩ (.pointer (some ⟨g1, 0, none⟩))).setCell ⟨w.heap.size + 1, 1, none⟩ (.pointer (some ⟨g2, 0, none⟩))) g2 (s1, z1, y1)) := ((unhide P2).mod ks.toModW (fun x hx _ h => by omega)).wider (Nat.le_refl _) (by omega)
  have K7 := hide ((unhide K2).wide ks (by omega))
  have hm1 : w.heap.size ≤ w1.heap.size := by omega
  have hm2 : w1.heap.size ≤ ((w2.setCell ⟨w.heap.size + 1, 0, none⟩ (.pointer (some ⟨g1, 0, none⟩))).setCell ⟨w.heap.size + 1, 1, none⟩ (.pointer (some ⟨g2, 0, none⟩))).heap.size := by omega
  have HM := hide (And.intro hm1 hm2)
  clear P1 P2 K2 ks hsz sA hm1 hm2 f0 f1 e0 e1 e2 e3 e4 e5
  go_wp2
  exact bodyPost_ret (v := .agg #[.pointer (some ⟨g1, 0, none⟩), .pointer (some ⟨g2, 0, none⟩)]) (by simp [results, Tryz.results72, go_sem, G0, G1]) rfl ⟨g1, g2, w1.heap.size, rfl, unhide F1, unhide F2, (unhide HM).1, (unhide HM).2, unhide K7⟩

end Go.Proofs.YthahoabkehcgbaaGreatDoor

