/-
  The program's again: a copy of a number that is worked on, its limbs, too.
-/
import Derived.Test.YtgoncjcnakkaoaaGreatDoorSqg
import Derived.Test.YtgoncjcnakkaoaaGreatDoorBI
import Derived.Test.YtgoncjcnakkaoaaGreatDoorBC
import Derived.Deep.DeepCutAuto
import Derived.Deep.RegionHeld3
namespace Go.Proofs.YtgoncjcnakkaoaaGreatDoor
open Go.RowKit
set_option linter.unusedVariables false
set_option maxRecDepth 8000
set_option linter.unusedSimpArgs false

set_option maxHeartbeats 4000000 in
theorem again_impl {g : Nat} {u : Value} {zs : List Int} {s : Bool} {x : Int} (w : World) (n : Num 0 w g u zs) (sd : Sd w g s) (ex : Ex w g x) (hl : zs.length ≤ 1000000) :
    Calls Tryz.prog 63 #[.pointer (some ⟨g, 0, none⟩)] w fun e w' => ∃ v', e = .returned (.agg #[v', .bool s, .int .i64 x]) ∧ w'.ownsRow w.heap.size 3 1 v' zs.length (zs.map (Value.int .i64)) ∧ Kept 0 0 w w' := by
  obtain ⟨W, hW⟩ : ∃ W, W = w.alloc (.cells #[.slice none 0 0, .bool false, .int .i64 0] 90) := ⟨_, rfl⟩
  have k0 : Kept 0 0 w W := by rw [hW]; exact (Kept.refl 0 0 w).alloc _
  have q0 : W.cell? ⟨w.heap.size, 0, none⟩ = some (.slice none 0 0) := by rw [hW]; exact new_cell2 _ _ _ _ _ _ (by simp) rfl
  have f0 : W.frozen? ⟨w.heap.size, 0, none⟩ = false := by rw [hW]; exact new_loose2 _ _ _ _ _ (by simp)
  have q1 : W.cell? ⟨w.heap.size, 1, none⟩ = some (.bool false) := by rw [hW]; exact new_cell2 _ _ _ _ _ _ (by simp) rfl
  have f1 : W.frozen? ⟨w.heap.size, 1, none⟩ = false := by rw [hW]; exact new_loose2 _ _ _ _ _ (by simp)
  have q2 : W.cell? ⟨w.heap.size, 2, none⟩ = some (.int .i64 0) := by rw [hW]; exact new_cell2 _ _ _ _ _ _ (by simp) rfl
  have f2 : W.frozen? ⟨w.heap.size, 2, none⟩ = false := by rw [hW]; exact new_loose2 _ _ _ _ _ (by simp)
  have sW : W.heap.size = w.heap.size + 1 := by rw [hW]; simp
  have hgl := n.lt
  have kd : Kept 0 0 w W.drew := k0.drew
  have p1 := kd.cell0 sd.1
  have p2 := kd.cell0 ex.1
  have hc := copied_impl W.drew (n.kept kd) hl
  have KD := hide kd
  have S0 := hide sW
  have HG := hide hgl
  clear n sd ex k0 kd sW hgl
  go_enter Tryz.func63, Tryz.ntmps63
  go_wp2_with fail
  rw [← hW]
  clear hW
  refine wp_region_held_drew (S := (fun w' => w'.cell? ⟨g, 1, none⟩ = some (.bool s) ∧ w'.cell? ⟨g, 2, none⟩ = some (.int .i64 x))) (by kernel_rfl) ?_ (fun hHeld => ?_)
  · exact ⟨p1, p2⟩
  refine wpAnyH_take (i := 0) (oi := _) (v := .pointer (some ⟨g, 0, none⟩)) rfl (by kernel_rfl) (by kernel_rfl) (by kernel_rfl) (fun _ _ _ h => h) (Or.inl ⟨by rfl, ?_⟩) hHeld ?_
  · intro wq hSw
    try dsimp only at hSw
    go_simp
  try simp only [Act.put, List.getElem_toArray, List.getElem_cons_succ, List.getElem_cons_zero, List.setIfInBounds_toArray, List.set_cons_zero, List.set_cons_succ]
  refine wpAnyH_take (i := 1) (oi := _) (v := .pointer (some ⟨g, 0, none⟩)) rfl (by kernel_rfl) (by kernel_rfl) (by kernel_rfl) (fun _ _ _ h => h) (Or.inl ⟨by rfl, ?_⟩) hHeld ?_
  · intro wq hSw
    try dsimp only at hSw
    go_simp
  try simp only [Act.put, List.getElem_toArray, List.getElem_cons_succ, List.getElem_cons_zero, List.setIfInBounds_toArray, List.set_cons_zero, List.set_cons_succ]
  refine wpAnyH_take (i := 2) (oi := _) (v := .pointer (some ⟨g, 0, none⟩)) rfl (by kernel_rfl) (by kernel_rfl) (by kernel_rfl) (fun _ _ _ h => h) (Or.inl ⟨by rfl, ?_⟩) hHeld ?_
  · intro wq hSw
    try dsimp only at hSw
    go_simp
  try simp only [Act.put, List.getElem_toArray, List.getElem_cons_succ, List.getElem_cons_zero, List.setIfInBounds_toArray, List.set_cons_zero, List.set_cons_succ]
  refine wpAnyH_take (i := 3) (oi := _) (v := .pointer (some ⟨g, 0, none⟩)) rfl (by kernel_rfl) (by kernel_rfl) (by kernel_rfl) (fun _ _ _ h => h) (Or.inl ⟨by rfl, ?_⟩) hHeld ?_
  · intro wq hSw
    try dsimp only at hSw
    go_simp
  try simp only [Act.put, List.getElem_toArray, List.getElem_cons_succ, List.getElem_cons_zero, List.setIfInBounds_toArray, List.set_cons_zero, List.set_cons_succ]
  refine wpAnyH_take (i := 5) (oi := _) (v := .pointer (some ⟨g, 0, none⟩)) rfl (by kernel_rfl) (by kernel_rfl) (by kernel_rfl) (fun _ _ _ h => h) (Or.inl ⟨by rfl, ?_⟩) hHeld ?_
  · intro wq hSw
    try dsimp only at hSw
    go_simp
  try simp only [Act.put, List.getElem_toArray, List.getElem_cons_succ, List.getElem_cons_zero, List.setIfInBounds_toArray, List.set_cons_zero, List.set_cons_succ]
  refine wpAnyH_take (i := 6) (oi := _) (v := .pointer (some ⟨g, 0, none⟩)) rfl (by kernel_rfl) (by kernel_rfl) (by kernel_rfl) (fun _ _ _ h => h) (Or.inl ⟨by rfl, ?_⟩) hHeld ?_
  · intro wq hSw
    try dsimp only at hSw
    go_simp
  try simp only [Act.put, List.getElem_toArray, List.getElem_cons_succ, List.getElem_cons_zero, List.setIfInBounds_toArray, List.set_cons_zero, List.set_cons_succ]
  refine wpAnyH_take (i := 7) (oi := _) (v := .pointer (some ⟨g, 0, none⟩)) rfl (by kernel_rfl) (by kernel_rfl) (by kernel_rfl) (fun _ _ _ h => h) (Or.inl ⟨by rfl, ?_⟩) hHeld ?_
  · intro wq hSw
    try dsimp only at hSw
    go_simp
  try simp only [Act.put, List.getElem_toArray, List.getElem_cons_succ, List.getElem_cons_zero, List.setIfInBounds_toArray, List.set_cons_zero, List.set_cons_succ]
  refine wpAnyH_take (i := 8) (oi := _) (v := .pointer (some ⟨g, 1, none⟩)) rfl (by kernel_rfl) (by kernel_rfl) (by kernel_rfl) (fun _ _ _ h => h) (Or.inl ⟨by rfl, ?_⟩) hHeld ?_
  · intro wq hSw
    try dsimp only at hSw
    go_simp
  try simp only [Act.put, List.getElem_toArray, List.getElem_cons_succ, List.getElem_cons_zero, List.setIfInBounds_toArray, List.set_cons_zero, List.set_cons_succ]
  refine wpAnyH_take (i := 9) (oi := _) (v := .bool s) rfl (by kernel_rfl) (by kernel_rfl) (by kernel_rfl) (fun _ _ _ h => h) (Or.inl ⟨by rfl, ?_⟩) hHeld ?_
  · intro wq hSw
    try dsimp only at hSw
    go_simp
  try simp only [Act.put, List.getElem_toArray, List.getElem_cons_succ, List.getElem_cons_zero, List.setIfInBounds_toArray, List.set_cons_zero, List.set_cons_succ]
  refine wpAnyH_take (i := 11) (oi := _) (v := .pointer (some ⟨g, 0, none⟩)) rfl (by kernel_rfl) (by kernel_rfl) (by kernel_rfl) (fun _ _ _ h => h) (Or.inl ⟨by rfl, ?_⟩) hHeld ?_
  · intro wq hSw
    try dsimp only at hSw
    go_simp
  try simp only [Act.put, List.getElem_toArray, List.getElem_cons_succ, List.getElem_cons_zero, List.setIfInBounds_toArray, List.set_cons_zero, List.set_cons_succ]
  refine wpAnyH_take (i := 12) (oi := _) (v := .pointer (some ⟨g, 0, none⟩)) rfl (by kernel_rfl) (by kernel_rfl) (by kernel_rfl) (fun _ _ _ h => h) (Or.inl ⟨by rfl, ?_⟩) hHeld ?_
  · intro wq hSw
    try dsimp only at hSw
    go_simp
  try simp only [Act.put, List.getElem_toArray, List.getElem_cons_succ, List.getElem_cons_zero, List.setIfInBounds_toArray, List.set_cons_zero, List.set_cons_succ]
  refine wpAnyH_take (i := 13) (oi := _) (v := .pointer (some ⟨g, 2, none⟩)) rfl (by kernel_rfl) (by kernel_rfl) (by kernel_rfl) (fun _ _ _ h => h) (Or.inl ⟨by rfl, ?_⟩) hHeld ?_
  · intro wq hSw
    try dsimp only at hSw
    go_simp
  try simp only [Act.put, List.getElem_toArray, List.getElem_cons_succ, List.getElem_cons_zero, List.setIfInBounds_toArray, List.set_cons_zero, List.set_cons_succ]
  refine wpAnyH_take (i := 14) (oi := _) (v := .int .i64 x) rfl (by kernel_rfl) (by kernel_rfl) (by kernel_rfl) (fun _ _ _ h => h) (Or.inl ⟨by rfl, ?_⟩) hHeld ?_
  · intro wq hSw
    try dsimp only at hSw
    go_simp
  try simp only [Act.put, List.getElem_toArray, List.getElem_cons_succ, List.getElem_cons_zero, List.setIfInBounds_toArray, List.set_cons_zero, List.set_cons_succ]
  refine wpAnyH_ready (rs := [4]) (by kernel_rfl) (by simp) ?_
  refine AllReadyH.cons rfl (fun KK hK => ?_) AllReadyH.nil
  simp only [List.getElem_toArray, List.getElem_cons_succ, List.getElem_cons_zero]
  rw [if_pos (by rfl)]
  refine wps1 89 (.tmp 6) _ rfl in_copied (.pointer (some ⟨g, 0, none⟩)) rfl hc ?_
  rintro e w1 ⟨v1, rfl, o1, k1⟩
  refine ⟨_, rfl, ?_⟩
  obtain ⟨a1, c1, hv1⟩ := own_slice o1
  subst hv1
  replace f0 := k1.loose0 (W := W.drew) (World.block_lt_of_cell? W ⟨w.heap.size, 0, none⟩ q0) f0
  replace f1 := k1.loose0 (W := W.drew) (World.block_lt_of_cell? W ⟨w.heap.size, 1, none⟩ q1) f1
  replace f2 := k1.loose0 (W := W.drew) (World.block_lt_of_cell? W ⟨w.heap.size, 2, none⟩ q2) f2
  replace q0 := k1.cell0 (W := W.drew) q0
  replace q1 := k1.cell0 (W := W.drew) q1
  replace q2 := k1.cell0 (W := W.drew) q2
  replace p1 := k1.cell0 p1
  replace p2 := k1.cell0 p2
  have ss := unhide S0
  have hgl := unhide HG
  have o2 : w1.ownsRow (w.heap.size + 1) 3 1 (.slice a1 zs.length c1) zs.length (zs.map (Value.int .i64)) := by
    have h5 := o1
    rw [show W.drew.heap.size = W.heap.size from rfl, ss] at h5
    exact h5
  have K1 := hide ((unhide KD).trans k1)
  clear hc o1 k1
  clear hHeld
  refine hK.out _ _ ?_ (fun hHeld => ?_)
  · exact ⟨p1, p2⟩
  clear hK KK
  try simp only [Act.put, List.getElem_toArray, List.getElem_cons_succ, List.getElem_cons_zero, List.setIfInBounds_toArray, List.set_cons_zero, List.set_cons_succ]
  refine wpAnyH_take (i := 10) (oi := _) (v := .agg #[.slice a1 zs.length c1, .bool s]) rfl (by kernel_rfl) (by kernel_rfl) (by kernel_rfl) (fun _ _ _ h => h) (Or.inl ⟨by rfl, ?_⟩) hHeld ?_
  · intro wq hSw
    try dsimp only at hSw
    go_simp
  try simp only [Act.put, List.getElem_toArray, List.getElem_cons_succ, List.getElem_cons_zero, List.setIfInBounds_toArray, List.set_cons_zero, List.set_cons_succ]
  refine wpAnyH_take (i := 15) (oi := _) (v := .agg #[.slice a1 zs.length c1, .bool s, .int .i64 x]) rfl (by kernel_rfl) (by kernel_rfl) (by kernel_rfl) (fun _ _ _ h => h) (Or.inl ⟨by rfl, ?_⟩) hHeld ?_
  · intro wq hSw
    try dsimp only at hSw
    go_simp
  try simp only [Act.put, List.getElem_toArray, List.getElem_cons_succ, List.getElem_cons_zero, List.setIfInBounds_toArray, List.set_cons_zero, List.set_cons_succ]
  refine wpAnyH_ready (rs := [16]) (by kernel_rfl) (by simp) ?_
  refine AllReadyH.cons rfl (fun KK hK => ?_) AllReadyH.nil
  simp only [List.getElem_toArray, List.getElem_cons_succ, List.getElem_cons_zero]
  rw [if_pos (by rfl)]
  go_simp
  clear hHeld
  refine hK.out _ _ ?_ (fun hHeld => ?_)
  · exact ⟨(cell_aside _ (by dsimp only; omega) (cell_aside _ (by dsimp only; omega) (cell_aside _ (by dsimp only; omega) p1))), (cell_aside _ (by dsimp only; omega) (cell_aside _ (by dsimp only; omega) (cell_aside _ (by dsimp only; omega) p2)))⟩
  clear hK KK
  try simp only [Act.put, List.getElem_toArray, List.getElem_cons_succ, List.getElem_cons_zero, List.setIfInBounds_toArray, List.set_cons_zero, List.set_cons_succ]
  refine wpAnyH_done (by kernel_rfl) ?_ _
  clear hHeld
  have ks : Kept w.heap.size (w.heap.size + 1) w1 (((w1.setCell ⟨w.heap.size, 0, none⟩ (.slice a1 zs.length c1)).setCell ⟨w.heap.size, 1, none⟩ (.bool s)).setCell ⟨w.heap.size, 2, none⟩ (.int .i64 x)) := (((Kept.refl _ _ _).setCell (p := ⟨w.heap.size, 0, none⟩) (Nat.le_refl _) (Nat.lt_succ_self _) _).setCell (p := ⟨w.heap.size, 1, none⟩) (Nat.le_refl _) (Nat.lt_succ_self _) _).setCell (p := ⟨w.heap.size, 2, none⟩) (Nat.le_refl _) (Nat.lt_succ_self _) _
  have O7 := hide (own_less (base' := w.heap.size) (Mod.own (S := fun i => i = w.heap.size) ⟨ks.os, ks.tape, ks.output, ks.size, fun i hi ho => ks.block i hi (by omega)⟩ o2 (fun i hi => by have := (o2.lt i hi).1; omega)) (by omega))
  have K7 := hide ((unhide K1).wide ks (Nat.le_refl _))
  have G0 := cell_off _ _ _ 2 (.int .i64 x) _ (cell_off _ _ _ 1 (.bool s) _ (cell_on _ _ _ (.slice a1 zs.length c1) _ q0) (show (0 : Nat) ≠ 1 by omega)) (show (0 : Nat) ≠ 2 by omega)
  have G1 := cell_off _ _ _ 2 (.int .i64 x) _ (cell_on _ _ _ (.bool s) _ (cell_off _ _ _ 0 (.slice a1 zs.length c1) _ q1 (show (1 : Nat) ≠ 0 by omega))) (show (1 : Nat) ≠ 2 by omega)
  have G2 := cell_on _ _ _ (.int .i64 x) _ (cell_off _ _ _ 1 (.bool s) _ (cell_off _ _ _ 0 (.slice a1 zs.length c1) _ q2 (show (2 : Nat) ≠ 0 by omega)) (show (2 : Nat) ≠ 1 by omega))
  clear ks K1 o2
  go_wp2_with fail
  exact bodyPost_ret (v := .agg #[.slice a1 zs.length c1, .bool s, .int .i64 x]) (by simp [results, Tryz.results63, go_sem, G0, G1, G2]) rfl ⟨_, rfl, unhide O7, unhide K7⟩

end Go.Proofs.YtgoncjcnakkaoaaGreatDoor
