/-
  The ends of an interval that is held as two numbers, told.
-/
import Derived.Test.YthahoabkehcgbaaGreatDoorqoWid1
import Derived.Test.YthahoabkehcgbaaGreatDoorqoDys6
import Derived.Test.YthahoabkehcgbaaGreatDoorqoHq3
import Derived.Test.YthahoabkehcgbaaGreatDoorqoBQ
import Derived.Test.YthahoabkehcgbaaGreatDoorqoDy7
namespace Go.Proofs.YthahoabkehcgbaaGreatDoor
open Go.RowKit
set_option linter.unusedVariables false
set_option maxRecDepth 8000
set_option linter.unusedSimpArgs false

theorem Dw.kept {lo hi : Nat} {w w' : World} {g : Nat} {d : DE} (h : Dw lo hi w g d) (k : Kept 0 0 w w') : Dw lo hi w' g d := h.mod (k.toMod (S := fun _ => False)) (fun _ _ _ h => h)
theorem Kept.toModW {l h : Nat} {a b : World} (k : Kept l h a b) : Mod (fun x => l ≤ x ∧ x < h) a b := ⟨k.os, k.tape, k.output, k.size, fun i h1 h2 => k.block i h1 (by omega)⟩
theorem Dw.wider {lo hi lo' hi' : Nat} {w : World} {g : Nat} {d : DE} (h : Dw lo hi w g d) (h1 : lo' ≤ lo) (h2 : hi ≤ hi') : Dw lo' hi' w g d := by
  obtain ⟨u, n, s, e, x1, x2, x3⟩ := h
  exact ⟨u, n, s, e, by omega, by omega, fun i hi => by have := x3 i hi; omega⟩
set_option maxHeartbeats 8000000 in
theorem heldOf_impl {lo0 hi0 lo1 hi1 : Nat} {u0 u1 : Value} {z0 z1 : List Int} (s0 s1 : Bool) (y0 y1 : Int) (w : World) (r0 : Row .i64 false lo0 hi0 w u0 z0) (r1 : Row .i64 false lo1 hi1 w u1 z1) (hl0 : z0.length ≤ 1000000) (hl1 : z1.length ≤ 1000000) :
    Calls Tryz.prog 72 #[.agg #[.bool s0, u0, .int .i64 y0, .bool s1, u1, .int .i64 y1]] w fun e w' => ∃ g1 g2 mid, e = .returned (.agg #[.pointer (some ⟨g1, 0, none⟩), .pointer (some ⟨g2, 0, none⟩)]) ∧ Dw w.heap.size mid w' g1 (s0, z0, y0) ∧ Dw mid w'.heap.size w' g2 (s1, z1, y1) ∧ w.heap.size ≤ mid ∧ mid ≤ w'.heap.size ∧ Kept 0 0 w w' := by
  obtain ⟨a0, c0, hv⟩ := Row.form' r0
  subst hv
  obtain ⟨a1, c1, hv⟩ := Row.form' r1
  subst hv
  have kA : Kept 0 0 w ((w.alloc (.cells #[.bool s0, .slice a0 z0.length c0, .int .i64 y0, .bool s1, .slice a1 z1.length c1, .int .i64 y1] 102)).alloc (.cells #[.pointer none, .pointer none] 79)) := ((Kept.refl 0 0 w).alloc _).alloc _
  have e0 : ((w.alloc (.cells #[.bool s0, .slice a0 z0.length c0, .int .i64 y0, .bool s1, .slice a1 z1.length c1, .int .i64 y1] 102)).alloc (.cells #[.pointer none, .pointer none] 79)).cell? ⟨w.heap.size, 0, none⟩ = some (.bool s0) := old_cell _ (new_cell2 _ _ _ _ _ _ rfl rfl)
  have e1 : ((w.alloc (.cells #[.bool s0, .slice a0 z0.length c0, .int .i64 y0, .bool s1, .slice a1 z1.length c1, .int .i64 y1] 102)).alloc (.cells #[.pointer none, .pointer none] 79)).cell? ⟨w.heap.size, 1, none⟩ = some (.slice a0 z0.length c0) := old_cell _ (new_cell2 _ _ _ _ _ _ rfl rfl)
  have e2 : ((w.alloc (.cells #[.bool s0, .slice a0 z0.length c0, .int .i64 y0, .bool s1, .slice a1 z1.length c1, .int .i64 y1] 102)).alloc (.cells #[.pointer none, .pointer none] 79)).cell? ⟨w.heap.size, 2, none⟩ = some (.int .i64 y0) := old_cell _ (new_cell2 _ _ _ _ _ _ rfl rfl)
  have e3 : ((w.alloc (.cells #[.bool s0, .slice a0 z0.length c0, .int .i64 y0, .bool s1, .slice a1 z1.length c1, .int .i64 y1] 102)).alloc (.cells #[.pointer none, .pointer none] 79)).cell? ⟨w.heap.size, 3, none⟩ = some (.bool s1) := old_cell _ (new_cell2 _ _ _ _ _ _ rfl rfl)
  have e4 : ((w.alloc (.cells #[.bool s0, .slice a0 z0.length c0, .int .i64 y0, .bool s1, .slice a1 z1.length c1, .int .i64 y1] 102)).alloc (.cells #[.pointer none, .pointer none] 79)).cell? ⟨w.heap.size, 4, none⟩ = some (.slice a1 z1.length c1) := old_cell _ (new_cell2 _ _ _ _ _ _ rfl rfl)
  have e5 : ((w.alloc (.cells #[.bool s0, .slice a0 z0.length c0, .int .i64 y0, .bool s1, .slice a1 z1.length c1, .int .i64 y1] 102)).alloc (.cells #[.pointer none, .pointer none] 79)).cell? ⟨w.heap.size, 5, none⟩ = some (.int .i64 y1) := old_cell _ (new_cell2 _ _ _ _ _ _ rfl rfl)
  have q0 : ((w.alloc (.cells #[.bool s0, .slice a0 z0.length c0, .int .i64 y0, .bool s1, .slice a1 z1.length c1, .int .i64 y1] 102)).alloc (.cells #[.pointer none, .pointer none] 79)).cell? ⟨w.heap.size + 1, 0, none⟩ = some (.pointer none) := new_cell2 _ _ _ _ _ _ (by simp) rfl
  have q1 : ((w.alloc (.cells #[.bool s0, .slice a0 z0.length c0, .int .i64 y0, .bool s1, .slice a1 z1.length c1, .int .i64 y1] 102)).alloc (.cells #[.pointer none, .pointer none] 79)).cell? ⟨w.heap.size + 1, 1, none⟩ = some (.pointer none) := new_cell2 _ _ _ _ _ _ (by simp) rfl
  have f0 : ((w.alloc (.cells #[.bool s0, .slice a0 z0.length c0, .int .i64 y0, .bool s1, .slice a1 z1.length c1, .int .i64 y1] 102)).alloc (.cells #[.pointer none, .pointer none] 79)).frozen? ⟨w.heap.size + 1, 0, none⟩ = false := new_loose2 _ _ _ _ _ (by simp)
  have f1 : ((w.alloc (.cells #[.bool s0, .slice a0 z0.length c0, .int .i64 y0, .bool s1, .slice a1 z1.length c1, .int .i64 y1] 102)).alloc (.cells #[.pointer none, .pointer none] 79)).frozen? ⟨w.heap.size + 1, 1, none⟩ = false := new_loose2 _ _ _ _ _ (by simp)
  have sA : ((w.alloc (.cells #[.bool s0, .slice a0 z0.length c0, .int .i64 y0, .bool s1, .slice a1 z1.length c1, .int .i64 y1] 102)).alloc (.cells #[.pointer none, .pointer none] 79)).heap.size = w.heap.size + 2 := by simp
  replace r0 := r0.kept kA (.inr (.inr (Nat.le_refl 0)))
  replace r1 := r1.kept kA (.inr (.inr (Nat.le_refl 0)))
  have R0 := hide r0
  have R1 := hide r1
  have KA := hide kA
  have SA := hide sA
  clear r0 r1 kA sA
  go_enter Tryz.func72, Tryz.ntmps72
  go_wp2_with fail
  generalize ((w.alloc (.cells #[.bool s0, .slice a0 z0.length c0, .int .i64 y0, .bool s1, .slice a1 z1.length c1, .int .i64 y1] 102)).alloc (.cells #[.pointer none, .pointer none] 79)) = W at *
  have kd := (Kept.refl 0 0 W).drew
  have hdr : W.drew.heap.size = W.heap.size := rfl
  replace e0 := kd.cell0 e0
  replace e1 := kd.cell0 e1
  replace e2 := kd.cell0 e2
  replace e3 := kd.cell0 e3
  replace e4 := kd.cell0 e4
  replace e5 := kd.cell0 e5
  replace f0 := kd.loose0 (World.block_lt_of_cell? _ _ q0) f0
  replace f1 := kd.loose0 (World.block_lt_of_cell? _ _ q1) f1
  replace q0 := kd.cell0 q0
  replace q1 := kd.cell0 q1
  replace R0 := hide ((unhide R0).kept kd (.inr (.inr (Nat.le_refl 0))))
  replace R1 := hide ((unhide R1).kept kd (.inr (.inr (Nat.le_refl 0))))
  have KD := hide ((unhide KA).trans kd)
  clear kd KA
  refine wp_region_held_drew (S := (fun w' => w'.cell? ⟨w.heap.size, 0, none⟩ = some (.bool s0) ∧ w'.cell? ⟨w.heap.size, 1, none⟩ = some (.slice a0 z0.length c0) ∧ w'.cell? ⟨w.heap.size, 2, none⟩ = some (.int .i64 y0) ∧ w'.cell? ⟨w.heap.size, 3, none⟩ = some (.bool s1) ∧ w'.cell? ⟨w.heap.size, 4, none⟩ = some (.slice a1 z1.length c1) ∧ w'.cell? ⟨w.heap.size, 5, none⟩ = some (.int .i64 y1))) (by kernel_rfl) ?_ (fun hHeld => ?_)
  · exact ⟨e0, e1, e2, e3, e4, e5⟩
  refine wpAnyH_take (i := 0) (oi := _) (v := .pointer (some ⟨w.heap.size, 0, none⟩)) rfl (by kernel_rfl) (by kernel_rfl) (by kernel_rfl) (fun _ _ _ h => h) (Or.inl ⟨by rfl, ?_⟩) hHeld ?_
  · intro wq hSw
    try dsimp only at hSw
    go_simp
  try simp only [Act.put, List.getElem_toArray, List.getElem_cons_succ, List.getElem_cons_zero, List.setIfInBounds_toArray, List.set_cons_zero, List.set_cons_succ]
  refine wpAnyH_take (i := 1) (oi := _) (v := .agg #[.bool s0, .slice a0 z0.length c0, .int .i64 y0]) rfl (by kernel_rfl) (by kernel_rfl) (by kernel_rfl) (fun _ _ _ h => h) (Or.inl ⟨by rfl, ?_⟩) hHeld ?_
  · intro wq hSw
    try dsimp only at hSw
    go_simp
  try simp only [Act.put, List.getElem_toArray, List.getElem_cons_succ, List.getElem_cons_zero, List.setIfInBounds_toArray, List.set_cons_zero, List.set_cons_succ]
  refine wpAnyH_take (i := 3) (oi := _) (v := .pointer (some ⟨w.heap.size, 3, none⟩)) rfl (by kernel_rfl) (by kernel_rfl) (by kernel_rfl) (fun _ _ _ h => h) (Or.inl ⟨by rfl, ?_⟩) hHeld ?_
  · intro wq hSw
    try dsimp only at hSw
    go_simp
  try simp only [Act.put, List.getElem_toArray, List.getElem_cons_succ, List.getElem_cons_zero, List.setIfInBounds_toArray, List.set_cons_zero, List.set_cons_succ]
  refine wpAnyH_take (i := 4) (oi := _) (v := .agg #[.bool s1, .slice a1 z1.length c1, .int .i64 y1]) rfl (by kernel_rfl) (by kernel_rfl) (by kernel_rfl) (fun _ _ _ h => h) (Or.inl ⟨by rfl, ?_⟩) hHeld ?_
  · intro wq hSw
    try dsimp only at hSw
    go_simp
  try simp only [Act.put, List.getElem_toArray, List.getElem_cons_succ, List.getElem_cons_zero, List.setIfInBounds_toArray, List.set_cons_zero, List.set_cons_succ]
  refine wpAnyH_ready (rs := [2]) (by kernel_rfl) (by simp) ?_
  refine AllReadyH.cons rfl (fun KK hK => ?_) AllReadyH.nil
  simp only [List.getElem_toArray, List.getElem_cons_succ, List.getElem_cons_zero]
  rw [if_pos (by rfl)]
  refine wps1 65 (.tmp 4) _ rfl in_newDyadic (.agg #[.bool s0, .slice a0 z0.length c0, .int .i64 y0]) rfl (newDyadic_impl s0 y0 _ (unhide R0) hl0) ?_
  rintro e w1 ⟨g1, rfl, D1, k1⟩
  refine ⟨_, rfl, ?_⟩
  have P1 := hide D1.dw
  have K1 := hide ((unhide KD).trans k1)
  replace R1 := hide ((unhide R1).kept k1 (.inr (.inr (Nat.le_refl 0))))
  have Z1 := k1.size
  replace f0 := k1.loose0 (World.block_lt_of_cell? _ _ q0) f0
  replace f1 := k1.loose0 (World.block_lt_of_cell? _ _ q1) f1
  replace e0 := k1.cell0 e0
  replace e1 := k1.cell0 e1
  replace e2 := k1.cell0 e2
  replace e3 := k1.cell0 e3
  replace e4 := k1.cell0 e4
  replace e5 := k1.cell0 e5
  replace q0 := k1.cell0 q0
  replace q1 := k1.cell0 q1
  clear D1 k1 KD R0
  clear hHeld
  refine hK.out _ _ ?_ (fun hHeld => ?_)
  · exact ⟨e0, e1, e2, e3, e4, e5⟩
  clear hK KK
  try simp only [Act.put, List.getElem_toArray, List.getElem_cons_succ, List.getElem_cons_zero, List.setIfInBounds_toArray, List.set_cons_zero, List.set_cons_succ]
  refine wpAnyH_ready (rs := [5]) (by kernel_rfl) (by simp) ?_
  refine AllReadyH.cons rfl (fun KK hK => ?_) AllReadyH.nil
  simp only [List.getElem_toArray, List.getElem_cons_succ, List.getElem_cons_zero]
  rw [if_pos (by rfl)]
  refine wps1 65 (.tmp 7) _ rfl in_newDyadic (.agg #[.bool s1, .slice a1 z1.length c1, .int .i64 y1]) rfl (newDyadic_impl s1 y1 _ (unhide R1) hl1) ?_
  rintro e w2 ⟨g2, rfl, D2, k2⟩
  refine ⟨_, rfl, ?_⟩
  have P2 := hide D2.dw
  replace P1 := hide ((unhide P1).kept k2)
  have K2 := hide ((unhide K1).trans k2)
  have Z2 := k2.size
  replace f0 := k2.loose0 (World.block_lt_of_cell? _ _ q0) f0
  replace f1 := k2.loose0 (World.block_lt_of_cell? _ _ q1) f1
  replace e0 := k2.cell0 e0
  replace e1 := k2.cell0 e1
  replace e2 := k2.cell0 e2
  replace e3 := k2.cell0 e3
  replace e4 := k2.cell0 e4
  replace e5 := k2.cell0 e5
  replace q0 := k2.cell0 q0
  replace q1 := k2.cell0 q1
  clear D2 k2 K1 R1
  clear hHeld
  refine hK.out _ _ ?_ (fun hHeld => ?_)
  · exact ⟨e0, e1, e2, e3, e4, e5⟩
  clear hK KK
  try simp only [Act.put, List.getElem_toArray, List.getElem_cons_succ, List.getElem_cons_zero, List.setIfInBounds_toArray, List.set_cons_zero, List.set_cons_succ]
  refine wpAnyH_take (i := 6) (oi := _) (v := .agg #[.pointer (some ⟨g1, 0, none⟩), .pointer (some ⟨g2, 0, none⟩)]) rfl (by kernel_rfl) (by kernel_rfl) (by kernel_rfl) (fun _ _ _ h => h) (Or.inl ⟨by rfl, ?_⟩) hHeld ?_
  · intro wq hSw
    try dsimp only at hSw
    go_simp
  try simp only [Act.put, List.getElem_toArray, List.getElem_cons_succ, List.getElem_cons_zero, List.setIfInBounds_toArray, List.set_cons_zero, List.set_cons_succ]
  refine wpAnyH_ready (rs := [7]) (by kernel_rfl) (by simp) ?_
  refine AllReadyH.cons rfl (fun KK hK => ?_) AllReadyH.nil
  simp only [List.getElem_toArray, List.getElem_cons_succ, List.getElem_cons_zero]
  rw [if_pos (by rfl)]
  go_simp
  clear hHeld
  refine hK.out _ _ ?_ (fun hHeld => ?_)
  · exact ⟨(cell_aside _ (by dsimp only; omega) (cell_aside _ (by dsimp only; omega) e0)), (cell_aside _ (by dsimp only; omega) (cell_aside _ (by dsimp only; omega) e1)), (cell_aside _ (by dsimp only; omega) (cell_aside _ (by dsimp only; omega) e2)), (cell_aside _ (by dsimp only; omega) (cell_aside _ (by dsimp only; omega) e3)), (cell_aside _ (by dsimp only; omega) (cell_aside _ (by dsimp only; omega) e4)), (cell_aside _ (by dsimp only; omega) (cell_aside _ (by dsimp only; omega) e5))⟩
  clear hK KK
  try simp only [Act.put, List.getElem_toArray, List.getElem_cons_succ, List.getElem_cons_zero, List.setIfInBounds_toArray, List.set_cons_zero, List.set_cons_succ]
  refine wpAnyH_done (by kernel_rfl) ?_ _
  clear hHeld
  have sA := unhide SA
  have G0 := cell_off _ _ _ 1 (.pointer (some ⟨g2, 0, none⟩)) _ (cell_on _ _ _ (.pointer (some ⟨g1, 0, none⟩)) _ q0) (show (0 : Nat) ≠ 1 by omega)
  have G1 := cell_on _ _ _ (.pointer (some ⟨g2, 0, none⟩)) _ (cell_off _ _ _ 0 (.pointer (some ⟨g1, 0, none⟩)) _ q1 (show (1 : Nat) ≠ 0 by omega))
  have ks : Kept (w.heap.size + 1) (w.heap.size + 2) w2 ((w2.setCell ⟨w.heap.size + 1, 0, none⟩ (.pointer (some ⟨g1, 0, none⟩))).setCell ⟨w.heap.size + 1, 1, none⟩ (.pointer (some ⟨g2, 0, none⟩))) := ((Kept.refl _ _ _).setCell (p := ⟨w.heap.size + 1, 0, none⟩) (Nat.le_refl _) (Nat.lt_succ_self _) _).setCell (p := ⟨w.heap.size + 1, 1, none⟩) (Nat.le_refl _) (Nat.lt_succ_self _) _
  have hsz : ((w2.setCell ⟨w.heap.size + 1, 0, none⟩ (.pointer (some ⟨g1, 0, none⟩))).setCell ⟨w.heap.size + 1, 1, none⟩ (.pointer (some ⟨g2, 0, none⟩))).heap.size = w2.heap.size := by rw [size_set, size_set]
  have F1 : Hid (Dw w.heap.size w1.heap.size ((w2.setCell ⟨w.heap.size + 1, 0, none⟩ (.pointer (some ⟨g1, 0, none⟩))).setCell ⟨w.heap.size + 1, 1, none⟩ (.pointer (some ⟨g2, 0, none⟩))) g1 (s0, z0, y0)) := ((unhide P1).mod ks.toModW (fun x hx _ h => by omega)).wider (by omega) (Nat.le_refl _)
  have F2 : Hid (Dw w1.heap.size ((w2.setCell ⟨w.heap.size + 1, 0, none⟩ (.pointer (some ⟨g1, 0, none⟩))).setCell ⟨w.heap.size + 1, 1, none⟩ (.pointer (some ⟨g2, 0, none⟩))).heap.size ((w2.setCell ⟨w.heap.size + 1, 0, none⟩ (.pointer (some ⟨g1, 0, none⟩))).setCell ⟨w.heap.size + 1, 1, none⟩ (.pointer (some ⟨g2, 0, none⟩))) g2 (s1, z1, y1)) := ((unhide P2).mod ks.toModW (fun x hx _ h => by omega)).wider (Nat.le_refl _) (by omega)
  have K7 := hide ((unhide K2).wide ks (by omega))
  have hm1 : w.heap.size ≤ w1.heap.size := by omega
  have hm2 : w1.heap.size ≤ ((w2.setCell ⟨w.heap.size + 1, 0, none⟩ (.pointer (some ⟨g1, 0, none⟩))).setCell ⟨w.heap.size + 1, 1, none⟩ (.pointer (some ⟨g2, 0, none⟩))).heap.size := by omega
  have HM := hide (And.intro hm1 hm2)
  clear P1 P2 K2 ks hsz sA hm1 hm2 f0 f1 e0 e1 e2 e3 e4 e5
  go_wp2
  exact bodyPost_ret (v := .agg #[.pointer (some ⟨g1, 0, none⟩), .pointer (some ⟨g2, 0, none⟩)]) (by simp [results, Tryz.results72, go_sem, G0, G1]) rfl ⟨g1, g2, w1.heap.size, rfl, unhide F1, unhide F2, (unhide HM).1, (unhide HM).2, unhide K7⟩

end Go.Proofs.YthahoabkehcgbaaGreatDoor


namespace Go.Proofs.YthahoabkehcgbaaGreatDoor
open Go.RowKit
set_option linter.unusedVariables false
set_option maxRecDepth 8000
set_option linter.unusedSimpArgs false

theorem wpv1k {P : Program} {o : Oper} {a : Act} {w : World} {K : Act → World → Prop} {Q : Exit → Act → World → Prop} {R : Ending → World → Prop}
    (n : FuncId) (f x : Operand) (ts : Array TypeId) (caps : Array Value) (hop : o.op = Op.call { callee := Callee.value f, args := #[x], argTypes := ts }) (hf : a.eval f = .func (.func n) #[] caps)
    (hcf : ∀ (w : World) (args : Array Value), (callFunc n args).run P w = .ok (.enter n args) w) (vx : Value) (hx : a.eval x = vx) (hc : Calls P n (#[vx] ++ caps) w R) (hK : ∀ e w', R e w' → ∃ v, e = .returned v ∧ K (a.put o.dst v) w') :
    Oper.wp P o a w K Q := by
  unfold Oper.wp
  have hrun : (execOp a.eval o).run P w = .ok (.enter n (#[vx] ++ caps)) w := by
    simp [execOp, hop, resolve, invoke, hx, hf, Deferred.ofValue, Result.andThen, hcf]
  rw [hrun, Oper.upon_enter]
  refine hc.mono ?_
  intro e w' h
  obtain ⟨v, rfl, h2⟩ := hK e w' h
  exact h2

theorem in_heldOf : ∀ (w : World) (args : Array Value), (callFunc 72 args).run Tryz.prog w = .ok (.enter 72 args) w := enters Tryz.func72 (by decide) (fun h => by cases h)

theorem in_squareFromH1 : ∀ (w : World) (args : Array Value), (callFunc 174 args).run Tryz.prog w = .ok (.enter 174 args) w := enters Tryz.func174 (by decide) (fun h => by cases h)

set_option maxHeartbeats 8000000 in
theorem squareFromH1_impl {lo hi B n m i j : Nat} {v : Value} {ds : List DE} (w : World) (hn : n ≤ 1000) (hi' : i < n) (hj : j < n) (hl : m = n * n) (U : ∀ q, q < 2 * m → dOkE (ds.getD q de0) = true)
    (c0 : w.cell? ⟨B, 0, none⟩ = some (.int .i64 (n : Int))) (c1 : w.cell? ⟨B + 1, 0, none⟩ = some v) (c2 : w.cell? ⟨B + 2, 0, none⟩ = some (.func (.func 72) #[] #[])) (r : Ivs lo hi w v ds m) :
    Calls Tryz.prog 174 #[.int .i64 (i : Int), .int .i64 (j : Int), .pointer (some ⟨B + 2, 0, none⟩), .pointer (some ⟨B + 1, 0, none⟩), .pointer (some ⟨B, 0, none⟩)] w fun e w' => ∃ g1 g2 mid, e = .returned (.agg #[.pointer (some ⟨g1, 0, none⟩), .pointer (some ⟨g2, 0, none⟩)]) ∧ Dw w.heap.size mid w' g1 (ds.getD (2 * (i * n + j)) de0) ∧ Dw mid w'.heap.size w' g2 (ds.getD (2 * (i * n + j) + 1) de0) ∧ w.heap.size ≤ mid ∧ mid ≤ w'.heap.size ∧ Kept 0 0 w w' := by
  have hp := place_lt hi' hj
  have hnn : n * n ≤ 1000000 := Nat.mul_le_mul hn hn
  have hin : i * n ≤ n * n := by omega
  obtain ⟨p, hpp⟩ : ∃ p, p = i * n + j := ⟨_, rfl⟩
  have hpl : p < m := by omega
  obtain ⟨a, c, rfl, -, -⟩ := r.form
  obtain ⟨g, off, l0, l1, rfl, -, -, -, b, kk, b', kk', e0, e1, e2, e3, e4, e5, hln0, hln1, rr0, rr1⟩ := r.at (i := p) hpl
  have hk0 := U (2 * p) (by omega)
  have hk1 := U (2 * p + 1) (by omega)
  rw [← hpp]
  obtain ⟨⟨s0, z0, y0⟩, hE0⟩ : ∃ q, q = ds.getD (2 * p) de0 := ⟨_, rfl⟩
  obtain ⟨⟨s1, z1, y1⟩, hE1⟩ : ∃ q, q = ds.getD (2 * p + 1) de0 := ⟨_, rfl⟩
  rw [← hE0] at e0 e2 hln0 rr0 hk0 ⊢
  rw [← hE1] at e3 e5 hln1 rr1 hk1 ⊢
  dsimp only at e0 e2 hln0 rr0 e3 e5 hln1 rr1
  have lz0 := (dok_len (show dokB s0 z0 y0 = true from hk0)).1
  have lz1 := (dok_len (show dokB s1 z1 y1 = true from hk1)).1
  obtain ⟨W, hW⟩ : ∃ W, W = w.alloc (.cells #[.pointer none, .pointer none] 79) := ⟨_, rfl⟩
  have k0 : Kept 0 0 w W := by rw [hW]; exact (Kept.refl 0 0 w).alloc _
  have q0 : W.cell? ⟨w.heap.size, 0, none⟩ = some (.pointer none) := by rw [hW]; exact new_cell2 _ _ _ _ _ _ rfl rfl
  have q1 : W.cell? ⟨w.heap.size, 1, none⟩ = some (.pointer none) := by rw [hW]; exact new_cell2 _ _ _ _ _ _ rfl rfl
  have f0 : W.frozen? ⟨w.heap.size, 0, none⟩ = false := by rw [hW]; exact new_loose2 _ _ _ _ _ rfl
  have f1 : W.frozen? ⟨w.heap.size, 1, none⟩ = false := by rw [hW]; exact new_loose2 _ _ _ _ _ rfl
  have SW : Hid (W.heap.size = w.heap.size + 1) := by show _ = _; rw [hW]; simp
  have kz := (Kept.refl 0 0 W).drew
  have kd := k0.trans kz
  have hd := heldOf_impl s0 s1 y0 y1 W.drew (rr0.kept kd (by omega)) (rr1.kept kd (by omega)) (by omega) (by omega)
  have hw1 : IntKind.i64.wrap ((i : Int) * (n : Int)) = (((i * n : Nat)) : Int) := by rw [IntKind.wrap_i64, ← Int.natCast_mul]; omega
  have hw2 : IntKind.i64.wrap ((((i * n : Nat)) : Int) + (j : Int)) = (p : Int) := by rw [IntKind.wrap_i64, hpp]; omega
  obtain ⟨im, him⟩ : ∃ im : Nat, i * n = im := ⟨_, rfl⟩
  rw [him] at hw1 hw2
  clear him hE0 hE1 hk0 hk1 hln0 hln1 rr0 rr1 hpp hp hnn hin hl r U lz0 lz1
  have B_c2 := hide (World.block_lt_of_cell? _ _ c2)
  have B_c1 := hide (World.block_lt_of_cell? _ _ c1)
  have B_c0 := hide (World.block_lt_of_cell? _ _ c0)
  have B_e0 := hide (World.block_lt_of_cell? _ _ e0)
  have B_e1 := hide (World.block_lt_of_cell? _ _ e1)
  have B_e2 := hide (World.block_lt_of_cell? _ _ e2)
  have B_e3 := hide (World.block_lt_of_cell? _ _ e3)
  have B_e4 := hide (World.block_lt_of_cell? _ _ e4)
  have B_e5 := hide (World.block_lt_of_cell? _ _ e5)
  replace c2 := kd.cell0 c2
  replace c1 := kd.cell0 c1
  replace c0 := kd.cell0 c0
  replace e0 := kd.cell0 e0
  replace e1 := kd.cell0 e1
  replace e2 := kd.cell0 e2
  replace e3 := kd.cell0 e3
  replace e4 := kd.cell0 e4
  replace e5 := kd.cell0 e5
  replace f0 := kz.loose0 (World.block_lt_of_cell? _ _ q0) f0
  replace f1 := kz.loose0 (World.block_lt_of_cell? _ _ q1) f1
  replace q0 := kz.cell0 q0
  replace q1 := kz.cell0 q1
  have KD := hide kd
  clear kd kz k0
  go_enter Tryz.func174, Tryz.ntmps174
  go_wp2_with fail
  rw [← hW]
  clear hW
  refine wp_region_held_drew (S := (fun w' => w'.cell? ⟨B + 2, 0, none⟩ = some (.func (.func 72) #[] #[]) ∧ w'.cell? ⟨B + 1, 0, none⟩ = some (.slice (some ⟨g, off, none⟩) m c) ∧ w'.cell? ⟨B, 0, none⟩ = some (.int .i64 (n : Int)) ∧ w'.cell? ⟨g, off + p * 6, none⟩ = some (.bool s0) ∧ w'.cell? ⟨g, off + p * 6 + 1, none⟩ = some (.slice b l0 kk) ∧ w'.cell? ⟨g, off + p * 6 + 2, none⟩ = some (.int .i64 y0) ∧ w'.cell? ⟨g, off + p * 6 + 3, none⟩ = some (.bool s1) ∧ w'.cell? ⟨g, off + p * 6 + 4, none⟩ = some (.slice b' l1 kk') ∧ w'.cell? ⟨g, off + p * 6 + 5, none⟩ = some (.int .i64 y1))) (by kernel_rfl) ?_ (fun hHeld => ?_)
  · exact ⟨c2, c1, c0, e0, e1, e2, e3, e4, e5⟩
  refine wpAnyH_take (i := 0) (oi := _) (v := .func (.func 72) #[] #[]) rfl (by kernel_rfl) (by kernel_rfl) (by kernel_rfl) (fun _ _ _ h => h) (Or.inl ⟨by rfl, ?_⟩) hHeld ?_
  · intro wq hSw
    try dsimp only at hSw
    go_simp
  try simp only [Act.put, List.getElem_toArray, List.getElem_cons_succ, List.getElem_cons_zero, List.setIfInBounds_toArray, List.set_cons_zero, List.set_cons_succ]
  refine wpAnyH_take (i := 1) (oi := _) (v := .slice (some ⟨g, off, none⟩) m c) rfl (by kernel_rfl) (by kernel_rfl) (by kernel_rfl) (fun _ _ _ h => h) (Or.inl ⟨by rfl, ?_⟩) hHeld ?_
  · intro wq hSw
    try dsimp only at hSw
    go_simp
  try simp only [Act.put, List.getElem_toArray, List.getElem_cons_succ, List.getElem_cons_zero, List.setIfInBounds_toArray, List.set_cons_zero, List.set_cons_succ]
  refine wpAnyH_take (i := 2) (oi := _) (v := .int .i64 (i : Int)) rfl (by kernel_rfl) (by kernel_rfl) (by kernel_rfl) (fun _ _ _ h => h) (Or.inl ⟨by rfl, ?_⟩) hHeld ?_
  · intro wq hSw
    try dsimp only at hSw
    go_simp
  try simp only [Act.put, List.getElem_toArray, List.getElem_cons_succ, List.getElem_cons_zero, List.setIfInBounds_toArray, List.set_cons_zero, List.set_cons_succ]
  refine wpAnyH_take (i := 3) (oi := _) (v := .int .i64 (n : Int)) rfl (by kernel_rfl) (by kernel_rfl) (by kernel_rfl) (fun _ _ _ h => h) (Or.inl ⟨by rfl, ?_⟩) hHeld ?_
  · intro wq hSw
    try dsimp only at hSw
    go_simp
  try simp only [Act.put, List.getElem_toArray, List.getElem_cons_succ, List.getElem_cons_zero, List.setIfInBounds_toArray, List.set_cons_zero, List.set_cons_succ]
  refine wpAnyH_take (i := 4) (oi := _) (v := .int .i64 (im : Int)) rfl (by kernel_rfl) (by kernel_rfl) (by kernel_rfl) (fun _ _ _ h => h) (Or.inl ⟨by rfl, ?_⟩) hHeld ?_
  · intro wq hSw
    try dsimp only at hSw
    go_simp
  try simp only [Act.put, List.getElem_toArray, List.getElem_cons_succ, List.getElem_cons_zero, List.setIfInBounds_toArray, List.set_cons_zero, List.set_cons_succ]
  refine wpAnyH_take (i := 5) (oi := _) (v := .int .i64 (j : Int)) rfl (by kernel_rfl) (by kernel_rfl) (by kernel_rfl) (fun _ _ _ h => h) (Or.inl ⟨by rfl, ?_⟩) hHeld ?_
  · intro wq hSw
    try dsimp only at hSw
    go_simp
  try simp only [Act.put, List.getElem_toArray, List.getElem_cons_succ, List.getElem_cons_zero, List.setIfInBounds_toArray, List.set_cons_zero, List.set_cons_succ]
  refine wpAnyH_take (i := 6) (oi := _) (v := .int .i64 (p : Int)) rfl (by kernel_rfl) (by kernel_rfl) (by kernel_rfl) (fun _ _ _ h => h) (Or.inl ⟨by rfl, ?_⟩) hHeld ?_
  · intro wq hSw
    try dsimp only at hSw
    go_simp
  try simp only [Act.put, List.getElem_toArray, List.getElem_cons_succ, List.getElem_cons_zero, List.setIfInBounds_toArray, List.set_cons_zero, List.set_cons_succ]
  refine wpAnyH_take (i := 7) (oi := _) (v := .pointer (some ⟨g, off + p * 6, none⟩)) rfl (by kernel_rfl) (by kernel_rfl) (by kernel_rfl) (fun _ _ _ h => h) (Or.inl ⟨by rfl, ?_⟩) hHeld ?_
  · intro wq hSw
    try dsimp only at hSw
    go_simp
  try simp only [Act.put, List.getElem_toArray, List.getElem_cons_succ, List.getElem_cons_zero, List.setIfInBounds_toArray, List.set_cons_zero, List.set_cons_succ]
  refine wpAnyH_take (i := 8) (oi := _) (v := .agg #[.bool s0, .slice b l0 kk, .int .i64 y0, .bool s1, .slice b' l1 kk', .int .i64 y1]) rfl (by kernel_rfl) (by kernel_rfl) (by kernel_rfl) (fun _ _ _ h => h) (Or.inl ⟨by rfl, ?_⟩) hHeld ?_
  · intro wq hSw
    try dsimp only at hSw
    go_simp
  try simp only [Act.put, List.getElem_toArray, List.getElem_cons_succ, List.getElem_cons_zero, List.setIfInBounds_toArray, List.set_cons_zero, List.set_cons_succ]
  refine wpAnyH_ready (rs := [9]) (by kernel_rfl) (by simp) ?_
  refine AllReadyH.cons rfl (fun KK hK => ?_) AllReadyH.nil
  simp only [List.getElem_toArray, List.getElem_cons_succ, List.getElem_cons_zero]
  rw [if_pos (by rfl)]
  refine wpv1 72 (.tmp 8) (.tmp 16) _ rfl rfl in_heldOf (.agg #[.bool s0, .slice b l0 kk, .int .i64 y0, .bool s1, .slice b' l1 kk', .int .i64 y1]) rfl hd ?_
  rintro e w1 ⟨g1, g2, mid, rfl, D1, D2, m1, m2, k1⟩
  refine ⟨_, rfl, ?_⟩
  have D := hide (And.intro D1 (And.intro D2 (And.intro m1 m2)))
  have K1 := hide ((unhide KD).trans k1)
  replace c2 := k1.cell0 c2
  replace c1 := k1.cell0 c1
  replace c0 := k1.cell0 c0
  replace e0 := k1.cell0 e0
  replace e1 := k1.cell0 e1
  replace e2 := k1.cell0 e2
  replace e3 := k1.cell0 e3
  replace e4 := k1.cell0 e4
  replace e5 := k1.cell0 e5
  replace f0 := k1.loose0 (World.block_lt_of_cell? _ _ q0) f0
  replace f1 := k1.loose0 (World.block_lt_of_cell? _ _ q1) f1
  replace q0 := k1.cell0 q0
  replace q1 := k1.cell0 q1
  clear hd D1 D2 m1 m2 k1 KD
  clear hHeld
  refine hK.out _ _ ?_ (fun hHeld => ?_)
  · exact ⟨c2, c1, c0, e0, e1, e2, e3, e4, e5⟩
  clear hK KK
  try simp only [Act.put, List.getElem_toArray, List.getElem_cons_succ, List.getElem_cons_zero, List.setIfInBounds_toArray, List.set_cons_zero, List.set_cons_succ]
  refine wpAnyH_ready (rs := [10]) (by kernel_rfl) (by simp) ?_
  refine AllReadyH.cons rfl (fun KK hK => ?_) AllReadyH.nil
  simp only [List.getElem_toArray, List.getElem_cons_succ, List.getElem_cons_zero]
  rw [if_pos (by rfl)]
  go_simp
  have ks : Kept w.heap.size (w.heap.size + 1) w1 ((w1.setCell ⟨w.heap.size, 0, none⟩ (.pointer (some ⟨g1, 0, none⟩))).setCell ⟨w.heap.size, 1, none⟩ (.pointer (some ⟨g2, 0, none⟩))) := ((Kept.refl _ _ _).setCell (p := ⟨w.heap.size, 0, none⟩) (Nat.le_refl _) (Nat.lt_succ_self _) _).setCell (p := ⟨w.heap.size, 1, none⟩) (Nat.le_refl _) (Nat.lt_succ_self _) _
  replace c2 := ks.cellOut (by have := unhide B_c2; dsimp only at this ⊢; omega) c2
  replace c1 := ks.cellOut (by have := unhide B_c1; dsimp only at this ⊢; omega) c1
  replace c0 := ks.cellOut (by have := unhide B_c0; dsimp only at this ⊢; omega) c0
  replace e0 := ks.cellOut (by have := unhide B_e0; dsimp only at this ⊢; omega) e0
  replace e1 := ks.cellOut (by have := unhide B_e1; dsimp only at this ⊢; omega) e1
  replace e2 := ks.cellOut (by have := unhide B_e2; dsimp only at this ⊢; omega) e2
  replace e3 := ks.cellOut (by have := unhide B_e3; dsimp only at this ⊢; omega) e3
  replace e4 := ks.cellOut (by have := unhide B_e4; dsimp only at this ⊢; omega) e4
  replace e5 := ks.cellOut (by have := unhide B_e5; dsimp only at this ⊢; omega) e5
  clear hHeld
  refine hK.out _ _ ?_ (fun hHeld => ?_)
  · exact ⟨c2, c1, c0, e0, e1, e2, e3, e4, e5⟩
  clear hK KK
  try simp only [Act.put, List.getElem_toArray, List.getElem_cons_succ, List.getElem_cons_zero, List.setIfInBounds_toArray, List.set_cons_zero, List.set_cons_succ]
  refine wpAnyH_done (by kernel_rfl) ?_ _
  clear hHeld
  have G0 := cell_off _ _ _ 1 (.pointer (some ⟨g2, 0, none⟩)) _ (cell_on _ _ _ (.pointer (some ⟨g1, 0, none⟩)) _ q0) (show (0 : Nat) ≠ 1 by omega)
  have G1 := cell_on _ _ _ (.pointer (some ⟨g2, 0, none⟩)) _ (cell_off _ _ _ 0 (.pointer (some ⟨g1, 0, none⟩)) _ q1 (show (1 : Nat) ≠ 0 by omega))
  have hsz : ((w1.setCell ⟨w.heap.size, 0, none⟩ (.pointer (some ⟨g1, 0, none⟩))).setCell ⟨w.heap.size, 1, none⟩ (.pointer (some ⟨g2, 0, none⟩))).heap.size = w1.heap.size := by rw [size_set, size_set]
  have dd := unhide D
  have sW := unhide SW
  have hdz : W.drew.heap.size = W.heap.size := rfl
  rw [hdz, sW] at dd
  have D9 : Hid (Dw w.heap.size mid ((w1.setCell ⟨w.heap.size, 0, none⟩ (.pointer (some ⟨g1, 0, none⟩))).setCell ⟨w.heap.size, 1, none⟩ (.pointer (some ⟨g2, 0, none⟩))) g1 (s0, z0, y0) ∧ Dw mid ((w1.setCell ⟨w.heap.size, 0, none⟩ (.pointer (some ⟨g1, 0, none⟩))).setCell ⟨w.heap.size, 1, none⟩ (.pointer (some ⟨g2, 0, none⟩))).heap.size ((w1.setCell ⟨w.heap.size, 0, none⟩ (.pointer (some ⟨g1, 0, none⟩))).setCell ⟨w.heap.size, 1, none⟩ (.pointer (some ⟨g2, 0, none⟩))) g2 (s1, z1, y1) ∧ w.heap.size ≤ mid ∧ mid ≤ ((w1.setCell ⟨w.heap.size, 0, none⟩ (.pointer (some ⟨g1, 0, none⟩))).setCell ⟨w.heap.size, 1, none⟩ (.pointer (some ⟨g2, 0, none⟩))).heap.size) :=
    ⟨(dd.1.mod ks.toModW (fun x h1 h2 h => by omega)).wider (by omega) (Nat.le_refl _), (dd.2.1.mod ks.toModW (fun x h1 h2 h => by omega)).wider (Nat.le_refl _) (by omega), by omega, by omega⟩
  have K9 := hide ((unhide K1).wide ks (Nat.le_refl _))
  clear D ks dd hdz hsz K1 sW
  clear c2 c1 c0 e0 e1 e2 e3 e4 e5
  go_wp2
  exact bodyPost_ret (v := .agg #[.pointer (some ⟨g1, 0, none⟩), .pointer (some ⟨g2, 0, none⟩)]) (by simp [results, Tryz.results174, go_sem, G0, G1]) rfl ⟨g1, g2, mid, rfl, (unhide D9).1, (unhide D9).2.1, (unhide D9).2.2.1, (unhide D9).2.2.2, unhide K9⟩

set_option maxHeartbeats 4000000 in
theorem squareFromH_impl {lo hi n m : Nat} {v : Value} {ds : List DE} (w : World) (hn : n ≤ 1000) (hl : m = n * n) (U : ∀ q, q < 2 * m → dOkE (ds.getD q de0) = true) (r : Ivs lo hi w v ds m) :
    Calls Tryz.prog 117 #[.int .i64 (n : Int), v, .func (.func 72) #[] #[]] w fun e w' => ∃ R G S, e = .returned (.agg #[.slice (some ⟨R, 0, none⟩) n n]) ∧ SqH S w' R n n G ∧ Nums w.heap.size S w' (2 * (n * n)) G (fun q => ds.getD q de0) ∧ (∀ x, S x → w.heap.size ≤ x ∧ x < w'.heap.size) ∧ w.heap.size ≤ R ∧ Kept 0 0 w w' := by
  obtain ⟨W, hW⟩ : ∃ W, W = (((w.alloc (.cells #[.int .i64 (n : Int)] 3)).alloc (.cells #[v] 26)).alloc (.cells #[.func (.func 72) #[] #[]] 103)).alloc (.cells #[.slice none 0 0] 76) := ⟨_, rfl⟩
  have k0 : Kept 0 0 w W := by rw [hW]; exact ((((Kept.refl 0 0 w).alloc _).alloc _).alloc _).alloc _
  have c0 : W.cell? ⟨w.heap.size, 0, none⟩ = some (.int .i64 (n : Int)) := by rw [hW]; exact old_cell _ (old_cell _ (old_cell _ (new_cell_at _ _ _ _ rfl)))
  have c1 : W.cell? ⟨w.heap.size + 1, 0, none⟩ = some v := by rw [hW]; exact old_cell _ (old_cell _ (new_cell_at _ _ _ _ (by simp)))
  have c2 : W.cell? ⟨w.heap.size + 2, 0, none⟩ = some (.func (.func 72) #[] #[]) := by rw [hW]; exact old_cell _ (new_cell_at _ _ _ _ (by simp))
  have q0 : W.cell? ⟨w.heap.size + 3, 0, none⟩ = some (.slice none 0 0) := by rw [hW]; exact new_cell2 _ _ _ _ _ _ (by simp) rfl
  have qf : W.frozen? ⟨w.heap.size + 3, 0, none⟩ = false := by rw [hW]; exact new_loose2 _ _ _ _ _ (by simp)
  have sW : W.heap.size = w.heap.size + 4 := by rw [hW]; simp
  have r0 := r.kept k0 (by omega)
  have hm := makeSquareH_new (n := n) hn 174 in_squareFromH1 #[.pointer (some ⟨w.heap.size + 2, 0, none⟩), .pointer (some ⟨w.heap.size + 1, 0, none⟩), .pointer (some ⟨w.heap.size, 0, none⟩)] (fun q => ds.getD q de0) W (fun i j w' hi hj k => squareFromH1_impl (B := w.heap.size) w' hn hi hj hl U (k.cell0 c0) (k.cell0 c1) (k.cell0 c2) (r0.kept k (by omega)))
  obtain ⟨a, c, rfl, -, -⟩ := r.form
  rw [hW] at hm c0
  have SW := hide sW
  clear r r0 U sW hl c1 c2
  go_enter Tryz.func117, Tryz.ntmps117
  go_wp2_with fail
  refine hm.mono ?_
  rw [← hW]
  rintro e w1 ⟨R, G, S, rfl, sq, nm, hS, hR, k1⟩
  have q1 := k1.cell0 q0
  have qf1 := k1.loose0 (World.block_lt_of_cell? _ _ q0) qf
  have sW := unhide SW
  have E1 := cell_on w1 (w.heap.size + 3) 0 (.slice (some ⟨R, 0, none⟩) n n) _ q1
  have ks : Kept (w.heap.size + 3) (w.heap.size + 3 + 1) w1 (w1.setCell ⟨w.heap.size + 3, 0, none⟩ (.slice (some ⟨R, 0, none⟩) n n)) := (Kept.refl _ _ _).setCell (p := ⟨w.heap.size + 3, 0, none⟩) (Nat.le_refl _) (Nat.lt_succ_self _) _
  have S2 : Hid (SqH S (w1.setCell ⟨w.heap.size + 3, 0, none⟩ (.slice (some ⟨R, 0, none⟩) n n)) R n n G ∧ Nums w.heap.size S (w1.setCell ⟨w.heap.size + 3, 0, none⟩ (.slice (some ⟨R, 0, none⟩) n n)) (2 * (n * n)) G (fun q => ds.getD q de0) ∧ (∀ x, S x → w.heap.size ≤ x ∧ x < (w1.setCell ⟨w.heap.size + 3, 0, none⟩ (.slice (some ⟨R, 0, none⟩) n n)).heap.size)) :=
    ⟨sq.keptY ks (by omega), (nm.win ks (by omega)).less (by omega), fun x hx => by (have := hS x hx; rw [size_set]; omega)⟩
  have K2 := hide ((k0.trans k1).wide ks (by omega))
  have hRR : w.heap.size ≤ R := by omega
  clear hm sq nm hS hR k1 ks sW q0 qf c0
  go_wp2
  exact bodyPost_ret (v := .agg #[.slice (some ⟨R, 0, none⟩) n n]) (by simp [results, Tryz.results117, go_sem, E1]) rfl ⟨R, G, S, rfl, (unhide S2).1, (unhide S2).2.1, (unhide S2).2.2, by have := hRR; omega, unhide K2⟩

set_option maxHeartbeats 4000000 in
theorem heldSquare_impl {lo hi n m : Nat} {v : Value} {ds : List DE} (w : World) (hn : n ≤ 1000) (hl : m = n * n) (U : ∀ q, q < 2 * m → dOkE (ds.getD q de0) = true) (r : Ivs lo hi w v ds m) :
    Calls Tryz.prog 56 #[.agg #[.int .i64 (n : Int), v]] w fun e w' => ∃ R G S, e = .returned (.agg #[.slice (some ⟨R, 0, none⟩) n n]) ∧ SqH S w' R n n G ∧ Nums w.heap.size S w' (2 * (n * n)) G (fun q => ds.getD q de0) ∧ (∀ x, S x → w.heap.size ≤ x ∧ x < w'.heap.size) ∧ w.heap.size ≤ R ∧ Kept 0 0 w w' := by
  obtain ⟨W, hW⟩ : ∃ W, W = (w.alloc (.cells #[.int .i64 (n : Int), v] 28)).alloc (.cells #[.slice none 0 0] 76) := ⟨_, rfl⟩
  have k0 : Kept 0 0 w W := by rw [hW]; exact ((Kept.refl 0 0 w).alloc _).alloc _
  have c0 : W.cell? ⟨w.heap.size, 0, none⟩ = some (.int .i64 (n : Int)) := by rw [hW]; exact old_cell _ (new_cell2 _ _ _ _ _ _ (by simp) rfl)
  have c1 : W.cell? ⟨w.heap.size, 1, none⟩ = some v := by rw [hW]; exact old_cell _ (new_cell2 _ _ _ _ _ _ (by simp) rfl)
  have q0 : W.cell? ⟨w.heap.size + 1, 0, none⟩ = some (.slice none 0 0) := by rw [hW]; exact new_cell2 _ _ _ _ _ _ (by simp) rfl
  have qf : W.frozen? ⟨w.heap.size + 1, 0, none⟩ = false := by rw [hW]; exact new_loose2 _ _ _ _ _ (by simp)
  have sW : W.heap.size = w.heap.size + 2 := by rw [hW]; simp
  have hm := squareFromH_impl W hn hl U (r.kept k0 (by omega))
  obtain ⟨a, c, rfl, -, -⟩ := r.form
  rw [hW] at hm
  have SW := hide sW
  clear r U sW hl
  go_enter Tryz.func56, Tryz.ntmps56
  go_wp2_with fail
  refine hm.mono ?_
  rw [← hW]
  rintro e w1 ⟨R, G, S, rfl, sq, nm, hS, hR, k1⟩
  have q1 := k1.cell0 q0
  have qf1 := k1.loose0 (World.block_lt_of_cell? _ _ q0) qf
  have sW := unhide SW
  have E1 := cell_on w1 (w.heap.size + 1) 0 (.slice (some ⟨R, 0, none⟩) n n) _ q1
  have ks : Kept (w.heap.size + 1) (w.heap.size + 1 + 1) w1 (w1.setCell ⟨w.heap.size + 1, 0, none⟩ (.slice (some ⟨R, 0, none⟩) n n)) := (Kept.refl _ _ _).setCell (p := ⟨w.heap.size + 1, 0, none⟩) (Nat.le_refl _) (Nat.lt_succ_self _) _
  have S2 : Hid (SqH S (w1.setCell ⟨w.heap.size + 1, 0, none⟩ (.slice (some ⟨R, 0, none⟩) n n)) R n n G ∧ Nums w.heap.size S (w1.setCell ⟨w.heap.size + 1, 0, none⟩ (.slice (some ⟨R, 0, none⟩) n n)) (2 * (n * n)) G (fun q => ds.getD q de0) ∧ (∀ x, S x → w.heap.size ≤ x ∧ x < (w1.setCell ⟨w.heap.size + 1, 0, none⟩ (.slice (some ⟨R, 0, none⟩) n n)).heap.size)) :=
    ⟨sq.keptY ks (by omega), (nm.win ks (by omega)).less (by omega), fun x hx => by (have := hS x hx; rw [size_set]; omega)⟩
  have K2 := hide ((k0.trans k1).wide ks (by omega))
  have hRR : w.heap.size ≤ R := by omega
  clear hm sq nm hS hR k1 ks sW q0 qf c0 c1
  go_wp2
  exact bodyPost_ret (v := .agg #[.slice (some ⟨R, 0, none⟩) n n]) (by simp [results, Tryz.results56, go_sem, E1]) rfl ⟨R, G, S, rfl, (unhide S2).1, (unhide S2).2.1, (unhide S2).2.2, by have := hRR; omega, unhide K2⟩

theorem in_eachH1 : ∀ (w : World) (args : Array Value), (callFunc 171 args).run Tryz.prog w = .ok (.enter 171 args) w := enters Tryz.func171 (by decide) (fun h => by cases h)

end Go.Proofs.YthahoabkehcgbaaGreatDoor


namespace Go.Proofs.YthahoabkehcgbaaGreatDoor
open Go.RowKit
set_option linter.unusedVariables false
set_option maxRecDepth 8000
set_option linter.unusedSimpArgs false

/-- What toldDyadic tells of a number, and whether. -/
def tdE (d : DE) : DE := (ansDS true (wval d.1 d.2.1) d.2.2, ansDL true (wval d.1 d.2.1) d.2.2, ansDE true (wval d.1 d.2.1) d.2.2)
def tdB (d : DE) : Bool := ansDB true (wval d.1 d.2.1) d.2.2
/-- A number that toldDyadic takes. -/
def TelOk (d : DE) : Prop := Nrm d.2.1 ∧ d.2.1.length ≤ 50000 ∧ d.2.2 ≤ 1000000 ∧ -1000000 ≤ d.2.2
theorem Kept.modW {lo hi : Nat} {A B : World} (k : Kept lo hi A B) : Mod (fun i => lo ≤ i ∧ i < hi) A B :=
  ⟨k.os, k.tape, k.output, k.size, fun i hi ho => k.block i hi (by omega)⟩
end Go.Proofs.YthahoabkehcgbaaGreatDoor


namespace Go.Proofs.YthahoabkehcgbaaGreatDoor
open Go.RowKit
set_option linter.unusedVariables false
set_option maxRecDepth 8000
set_option linter.unusedSimpArgs false

theorem Mod.monoH {S T : Nat → Prop} {a b : World} (h : Mod S a b) (hT : ∀ i, S i → T i) : Mod T a b := ⟨h.os, h.tape, h.output, h.size, fun i h1 h2 => h.block i h1 (fun e => h2 (hT i e))⟩
theorem Dw.keptA {lo hi l h : Nat} {w w' : World} {g : Nat} {d : DE} (D : Dw lo hi w g d) (k : Kept l h w w') (hd : h ≤ lo ∨ hi ≤ l) : Dw lo hi w' g d :=
  D.mod k.modW (fun x h1 h2 hx => by omega)

/-- What is told of an end, where both ends can be told. -/
def hE (b : Bool) (d : DE) : DE := if b then tdE d else de0
def hB (d1 d2 : DE) : Bool := tdB d1 && tdB d2
/-- The two windows. -/
def HW (l1 h1 l2 h2 : Nat) : Nat → Prop := fun x => (l1 ≤ x ∧ x < h1) ∨ (l2 ≤ x ∧ x < h2)
/-- What the two ends' answer is. -/
def HAns (b : Bool) (d1 d2 : DE) (S : Nat → Prop) (w : World) (e : Ending) (w' : World) : Prop :=
  ∃ v1 v2 mid, e = .returned (.tuple #[.agg #[.bool (hE b d1).1, v1, .int .i64 (hE b d1).2.2, .bool (hE b d2).1, v2, .int .i64 (hE b d2).2.2], .bool b]) ∧ Row .i64 true w.heap.size mid w' v1 (hE b d1).2.1 ∧ Row .i64 true mid w'.heap.size w' v2 (hE b d2).2.1 ∧ w.heap.size ≤ mid ∧ mid ≤ w'.heap.size ∧ Mod S w w'
theorem hAns_no {d1 d2 : DE} {S : Nat → Prop} {w w' : World} (m : Mod S w w') : HAns false d1 d2 S w (.returned (.tuple #[.agg #[.bool false, .slice none 0 0, .int .i64 0, .bool false, .slice none 0 0, .int .i64 0], .bool false])) w' :=
  ⟨_, _, w.heap.size, rfl, Row.nil _ _ _ _ _, Row.nil _ _ _ _ _, Nat.le_refl _, m.size, m⟩

end Go.Proofs.YthahoabkehcgbaaGreatDoor

