/-
  The program's toldSquare: a square as a matrix of numbers that are told.
-/
import Derived.Test.YtefnblaphkookaaGreatDoorTld
import Derived.Test.YtefnblaphkookaaGreatDoorSqh
import Derived.Deep.DeepCutAuto
import Derived.Deep.RegionHeld3
namespace Go.Proofs.YtefnblaphkookaaGreatDoor
open Go.RowKit
set_option linter.unusedVariables false
set_option maxRecDepth 8000
set_option linter.unusedSimpArgs false

theorem wpt3 {P : Program} {o : Oper} {a : Act} {w : World} {K : Act → World → Prop} {Q : Exit → Act → World → Prop} {R : Ending → World → Prop}
    (n : FuncId) (x y z : Operand) (ts : Array TypeId) (hop : o.op = Op.call { callee := Callee.value (Operand.func n), args := #[x, y, z], argTypes := ts })
    (hcf : ∀ (w : World) (args : Array Value), (callFunc n args).run P w = .ok (.enter n args) w) (vx vy vz : Value) (hx : a.eval x = vx) (hy : a.eval y = vy) (hz : a.eval z = vz) (hc : Calls P n #[vx, vy, vz] w R) (hK : ∀ e w', R e w' → ∃ v, e = .returned v ∧ K (a.put o.dst v) w') :
    Oper.wp P o a w K Q := by
  unfold Oper.wp
  have hrun : (execOp a.eval o).run P w = .ok (.enter n #[vx, vy, vz]) w := by
    have hfn : a.eval (.func n) = .func (.func n) #[] #[] := rfl
    simp [execOp, hop, resolve, invoke, hx, hy, hz, hfn, Deferred.ofValue, Result.andThen, hcf]
  rw [hrun, Oper.upon_enter]
  refine hc.mono ?_
  intro e w' h
  obtain ⟨v, rfl, h2⟩ := hK e w' h
  exact h2

theorem in_concat : ∀ (w : World) (args : Array Value), (callFunc 58 args).run Tryz.prog w = .ok (.enter 58 args) w := enters Tryz.func58 (by decide) (fun h => by cases h)

theorem in_toldMatP : ∀ (w : World) (args : Array Value), (callFunc 57 args).run Tryz.prog w = .ok (.enter 57 args) w := enters Tryz.func57 (by decide) (fun h => by cases h)

set_option maxHeartbeats 8000000 in
theorem toldSquare_impl {S : Nat → Prop} {R n b : Nat} {G : Nat → Nat} {F : Nat → DE} (h0 : 0 < n) (hn : n ≤ 10) (w : World) (s : SqG S w R n n G) (nm : Nums b S w (n * n) G F) (hF : ∀ p, p < n * n → TelOk (F p)) (T : TabB w) (hT : 1 < b) :
    Calls Tryz.prog 34 #[.agg #[.slice (some ⟨R, 0, none⟩) n n]] w fun e w' => ∃ v', e = .returned (.tuple #[.agg #[.int .i64 (telN (fun p => tdB (F p)) (n * n) (n : Int)), v'], .bool (allB (fun p => tdB (F p)) (n * n))]) ∧ DysO w.heap.size w'.heap.size w' v' (telL (fun p => tdE (F p)) (fun p => tdB (F p)) (n * n)) ∧ Kept b w.heap.size w w' := by
  obtain ⟨X1, hX1⟩ : ∃ x, x = telN (fun p => tdB (F p)) (n * n) (n : Int) := ⟨_, rfl⟩
  obtain ⟨X2, hX2⟩ : ∃ x, x = allB (fun p => tdB (F p)) (n * n) := ⟨_, rfl⟩
  obtain ⟨X3, hX3⟩ : ∃ x, x = telL (fun p => tdE (F p)) (fun p => tdB (F p)) (n * n) := ⟨_, rfl⟩
  rw [← hX1, ← hX2, ← hX3]
  have HX1 := hide hX1
  have HX2 := hide hX2
  have HX3 := hide hX3
  clear hX1 hX2 hX3
  obtain ⟨W, hW⟩ : ∃ W, W = (w.alloc (.cells #[.slice (some ⟨R, 0, none⟩) n n] 69)).alloc (.cells #[.int .i64 0, .slice none 0 0] 28) := ⟨_, rfl⟩
  have k0 : Kept 0 0 w W := by rw [hW]; exact ((Kept.refl 0 0 w).alloc _).alloc _
  have c0 : W.cell? ⟨w.heap.size, 0, none⟩ = some (.slice (some ⟨R, 0, none⟩) n n) := by rw [hW]; exact old_cell _ (new_cell2 _ _ _ _ _ _ (by simp) rfl)
  have q0 : W.cell? ⟨w.heap.size + 1, 0, none⟩ = some (.int .i64 0) := by rw [hW]; exact new_cell2 _ _ _ _ _ _ (by simp) rfl
  have qf0 : W.frozen? ⟨w.heap.size + 1, 0, none⟩ = false := by rw [hW]; exact new_loose2 _ _ _ _ _ (by simp)
  have q1 : W.cell? ⟨w.heap.size + 1, 1, none⟩ = some (.slice none 0 0) := by rw [hW]; exact new_cell2 _ _ _ _ _ _ (by simp) rfl
  have qf1 : W.frozen? ⟨w.heap.size + 1, 1, none⟩ = false := by rw [hW]; exact new_loose2 _ _ _ _ _ (by simp)
  have sW : W.heap.size = w.heap.size + 2 := by rw [hW]; simp
  have hnn : n * n ≤ 100 := Nat.mul_le_mul hn hn
  have S0 := hide sW
  clear sW
  go_enter Tryz.func34, Tryz.ntmps34
  go_wp2_with fail
  rw [← hW]
  clear hW
  have kd := (Kept.refl 0 0 W).drew
  have hcc := concat_impl (n := n) h0 (by omega) W.drew (s.kept (k0.trans kd))
  have c0d := kd.cell0 c0
  have K0 := hide (k0.trans kd)
  have HF := hide hF
  have HT := hide hT
  have TT := hide T
  have NM := hide nm
  clear s k0 kd hF hT T nm c0
  refine wp_region_held_drew (S := (fun w' => w'.cell? ⟨w.heap.size, 0, none⟩ = some (.slice (some ⟨R, 0, none⟩) n n))) (by kernel_rfl) ?_ (fun hHeld => ?_)
  · exact c0d
  refine wpAnyH_take (i := 0) (oi := _) (v := .pointer (some ⟨w.heap.size, 0, none⟩)) rfl (by kernel_rfl) (by kernel_rfl) (by kernel_rfl) (fun _ _ _ h => h) (Or.inl ⟨by rfl, ?_⟩) hHeld ?_
  · intro wq hSw
    try dsimp only at hSw
    go_simp
  try simp only [Act.put, List.getElem_toArray, List.getElem_cons_succ, List.getElem_cons_zero, List.setIfInBounds_toArray, List.set_cons_zero, List.set_cons_succ]
  refine wpAnyH_take (i := 1) (oi := _) (v := .slice (some ⟨R, 0, none⟩) n n) rfl (by kernel_rfl) (by kernel_rfl) (by kernel_rfl) (fun _ _ _ h => h) (Or.inl ⟨by rfl, ?_⟩) hHeld ?_
  · intro wq hSw
    try dsimp only at hSw
    go_simp
  try simp only [Act.put, List.getElem_toArray, List.getElem_cons_succ, List.getElem_cons_zero, List.setIfInBounds_toArray, List.set_cons_zero, List.set_cons_succ]
  refine wpAnyH_take (i := 2) (oi := _) (v := .int .i64 (n : Int)) rfl (by kernel_rfl) (by kernel_rfl) (by kernel_rfl) (fun _ _ _ h => h) (Or.inl ⟨by rfl, ?_⟩) hHeld ?_
  · intro wq hSw
    try dsimp only at hSw
    go_simp
  try simp only [Act.put, List.getElem_toArray, List.getElem_cons_succ, List.getElem_cons_zero, List.setIfInBounds_toArray, List.set_cons_zero, List.set_cons_succ]
  refine wpAnyH_take (i := 3) (oi := _) (v := .pointer (some ⟨w.heap.size, 0, none⟩)) rfl (by kernel_rfl) (by kernel_rfl) (by kernel_rfl) (fun _ _ _ h => h) (Or.inl ⟨by rfl, ?_⟩) hHeld ?_
  · intro wq hSw
    try dsimp only at hSw
    go_simp
  try simp only [Act.put, List.getElem_toArray, List.getElem_cons_succ, List.getElem_cons_zero, List.setIfInBounds_toArray, List.set_cons_zero, List.set_cons_succ]
  refine wpAnyH_take (i := 4) (oi := _) (v := .slice (some ⟨R, 0, none⟩) n n) rfl (by kernel_rfl) (by kernel_rfl) (by kernel_rfl) (fun _ _ _ h => h) (Or.inl ⟨by rfl, ?_⟩) hHeld ?_
  · intro wq hSw
    try dsimp only at hSw
    go_simp
  try simp only [Act.put, List.getElem_toArray, List.getElem_cons_succ, List.getElem_cons_zero, List.setIfInBounds_toArray, List.set_cons_zero, List.set_cons_succ]
  refine wpAnyH_ready (rs := [5]) (by kernel_rfl) (by simp) ?_
  refine AllReadyH.cons rfl (fun KK hK => ?_) AllReadyH.nil
  simp only [List.getElem_toArray, List.getElem_cons_succ, List.getElem_cons_zero]
  rw [if_pos (by rfl)]
  refine wps1 58 (.tmp 8) _ rfl in_concat (.slice (some ⟨R, 0, none⟩) n n) rfl hcc ?_
  rintro e w1 ⟨v1, rfl, o1, k1⟩
  refine ⟨_, rfl, ?_⟩
  have c1d := k1.cell0 c0d
  have hsz1 : W.heap.size ≤ w1.heap.size := k1.size
  have K1 := hide ((unhide K0).trans k1)
  replace qf0 := k1.loose0 (W := W.drew) (World.block_lt_of_cell? W ⟨w.heap.size + 1, 0, none⟩ q0) qf0
  replace qf1 := k1.loose0 (W := W.drew) (World.block_lt_of_cell? W ⟨w.heap.size + 1, 1, none⟩ q1) qf1
  replace q0 := k1.cell0 (W := W.drew) q0
  replace q1 := k1.cell0 (W := W.drew) q1
  have ss := unhide S0
  have hsd : W.drew.heap.size = W.heap.size := rfl
  have htm := toldMatP_impl (b0 := b) (n := n * n) (lo := W.drew.heap.size) (G := G) (F := F) (n : Int) w w1 (Nat.mul_pos h0 h0) hnn (unhide NM) (unhide K1) o1 (by rw [hsd, ss]; omega) (unhide HF) (fun q hq => (unhide K1).cell0 (unhide TT q hq)) (unhide HT)
  clear hcc o1 k1 hsd
  clear hHeld
  refine hK.out _ _ ?_ (fun hHeld => ?_)
  · exact c1d
  clear hK KK
  try simp only [Act.put, List.getElem_toArray, List.getElem_cons_succ, List.getElem_cons_zero, List.setIfInBounds_toArray, List.set_cons_zero, List.set_cons_succ]
  refine wpAnyH_ready (rs := [6]) (by kernel_rfl) (by simp) ?_
  refine AllReadyH.cons rfl (fun KK hK => ?_) AllReadyH.nil
  simp only [List.getElem_toArray, List.getElem_cons_succ, List.getElem_cons_zero]
  rw [if_pos (by rfl)]
  rw [← unhide HX1, ← unhide HX2, ← unhide HX3] at htm
  refine wpt3 57 (.tmp 6) (.tmp 9) (.func 59) _ rfl in_toldMatP (.int .i64 (n : Int)) v1 (.func (.func 59) #[] #[]) rfl rfl rfl htm ?_
  rintro e w2 ⟨v2, rfl, d2, k2⟩
  refine ⟨_, rfl, ?_⟩
  obtain ⟨a2, e2, hv2⟩ := d2.form'
  subst hv2
  have c2d := k2.cellOut (a := ⟨w.heap.size, 0, none⟩) (.inr (Nat.le_refl _)) c1d
  replace qf0 := k2.looseOut (a := ⟨w.heap.size + 1, 0, none⟩) (.inr (by dsimp only; omega)) (World.block_lt_of_cell? _ _ q0) qf0
  replace qf1 := k2.looseOut (a := ⟨w.heap.size + 1, 1, none⟩) (.inr (by dsimp only; omega)) (World.block_lt_of_cell? _ _ q1) qf1
  replace q0 := k2.cellOut (a := ⟨w.heap.size + 1, 0, none⟩) (.inr (by dsimp only; omega)) q0
  replace q1 := k2.cellOut (a := ⟨w.heap.size + 1, 1, none⟩) (.inr (by dsimp only; omega)) q1
  have K2 := hide ((unhide K1).any.trans k2)
  have D2 := hide d2
  have hsz2 := k2.size
  clear htm k2 d2
  clear hHeld
  refine hK.out _ _ ?_ (fun hHeld => ?_)
  · exact c2d
  clear hK KK
  try simp only [Act.put, List.getElem_toArray, List.getElem_cons_succ, List.getElem_cons_zero, List.setIfInBounds_toArray, List.set_cons_zero, List.set_cons_succ]
  refine wpAnyH_take (i := 7) (oi := _) (v := .agg #[.int .i64 X1, .slice a2 X3.length e2]) rfl (by kernel_rfl) (by kernel_rfl) (by kernel_rfl) (fun _ _ _ h => h) (Or.inl ⟨by rfl, ?_⟩) hHeld ?_
  · intro wq hSw
    try dsimp only at hSw
    go_simp
  try simp only [Act.put, List.getElem_toArray, List.getElem_cons_succ, List.getElem_cons_zero, List.setIfInBounds_toArray, List.set_cons_zero, List.set_cons_succ]
  refine wpAnyH_take (i := 8) (oi := _) (v := .bool X2) rfl (by kernel_rfl) (by kernel_rfl) (by kernel_rfl) (fun _ _ _ h => h) (Or.inl ⟨by rfl, ?_⟩) hHeld ?_
  · intro wq hSw
    try dsimp only at hSw
    go_simp
  try simp only [Act.put, List.getElem_toArray, List.getElem_cons_succ, List.getElem_cons_zero, List.setIfInBounds_toArray, List.set_cons_zero, List.set_cons_succ]
  refine wpAnyH_ready (rs := [9]) (by kernel_rfl) (by simp) ?_
  refine AllReadyH.cons rfl (fun KK hK => ?_) AllReadyH.nil
  simp only [List.getElem_toArray, List.getElem_cons_succ, List.getElem_cons_zero]
  rw [if_pos (by rfl)]
  go_simp
  clear hHeld
  refine hK.out _ _ ?_ (fun hHeld => ?_)
  · exact cell_aside _ (by dsimp only; omega) (cell_aside _ (by dsimp only; omega) c2d)
  clear hK KK
  try simp only [Act.put, List.getElem_toArray, List.getElem_cons_succ, List.getElem_cons_zero, List.setIfInBounds_toArray, List.set_cons_zero, List.set_cons_succ]
  refine wpAnyH_take (i := 10) (oi := _) (v := .bool X2) rfl (by kernel_rfl) (by kernel_rfl) (by kernel_rfl) (fun _ _ _ h => h) (Or.inl ⟨by rfl, ?_⟩) hHeld ?_
  · intro wq hSw
    try dsimp only at hSw
    go_simp
  try simp only [Act.put, List.getElem_toArray, List.getElem_cons_succ, List.getElem_cons_zero, List.setIfInBounds_toArray, List.set_cons_zero, List.set_cons_succ]
  refine wpAnyH_done (by kernel_rfl) ?_ _
  clear hHeld
  have ks : Kept (w.heap.size + 1) (w.heap.size + 2) w2 ((w2.setCell ⟨w.heap.size + 1, 0, none⟩ (.int .i64 X1)).setCell ⟨w.heap.size + 1, 1, none⟩ (.slice a2 X3.length e2)) := ((Kept.refl _ _ _).setCell (p := ⟨w.heap.size + 1, 0, none⟩) (Nat.le_refl _) (Nat.lt_succ_self _) _).setCell (p := ⟨w.heap.size + 1, 1, none⟩) (Nat.le_refl _) (Nat.lt_succ_self _) _
  have hsz : ((w2.setCell ⟨w.heap.size + 1, 0, none⟩ (.int .i64 X1)).setCell ⟨w.heap.size + 1, 1, none⟩ (.slice a2 X3.length e2)).heap.size = w2.heap.size := by rw [size_set, size_set]
  have DD := hide (((unhide D2).kept ks (by omega)).wider (lo' := w.heap.size) (hi' := ((w2.setCell ⟨w.heap.size + 1, 0, none⟩ (.int .i64 X1)).setCell ⟨w.heap.size + 1, 1, none⟩ (.slice a2 X3.length e2)).heap.size) (by omega) (by omega))
  have K7 : Hid (Kept b w.heap.size w ((w2.setCell ⟨w.heap.size + 1, 0, none⟩ (.int .i64 X1)).setCell ⟨w.heap.size + 1, 1, none⟩ (.slice a2 X3.length e2))) := ⟨ks.os.trans (unhide K2).os, ks.tape.trans (unhide K2).tape, ks.output.trans (unhide K2).output, Nat.le_trans (unhide K2).size ks.size, fun q hq ho => (ks.block q (Nat.lt_of_lt_of_le hq (unhide K2).size) (by omega)).trans ((unhide K2).block q hq ho)⟩
  have G0 := cell_off _ _ _ 1 (.slice a2 X3.length e2) _ (cell_on _ _ _ (.int .i64 X1) _ q0) (show (0 : Nat) ≠ 1 by omega)
  have G1 := cell_on _ _ _ (.slice a2 X3.length e2) _ (cell_off _ _ _ 0 (.int .i64 X1) _ q1 (show (1 : Nat) ≠ 0 by omega))
  clear ks hsz D2 K2 K1 K0
  go_wp2_with fail
  exact bodyPost_ret (v := .tuple #[.agg #[.int .i64 X1, .slice a2 X3.length e2], .bool X2]) (by simp [results, Tryz.results34, go_sem, G0, G1]) rfl ⟨_, rfl, unhide DD, unhide K7⟩

end Go.Proofs.YtefnblaphkookaaGreatDoor
