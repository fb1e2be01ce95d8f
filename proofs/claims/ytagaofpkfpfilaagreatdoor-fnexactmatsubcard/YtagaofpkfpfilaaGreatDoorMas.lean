/-
  MatSub of the program.
-/
import Derived.Test.YtagaofpkfpfilaaGreatDoorPl3
import Derived.Test.YtagaofpkfpfilaaGreatDoorMaa
import Derived.Deep.DeepCutAuto
import Derived.Deep.RegionHeld3
namespace Go.Proofs.YtagaofpkfpfilaaGreatDoor
open Go.RowKit
set_option linter.unusedVariables false
set_option maxRecDepth 8000
set_option linter.unusedSimpArgs false

theorem in_eachS : ∀ (w : World) (args : Array Value), (callFunc 44 args).run Tryz.prog w = .ok (.enter 44 args) w := enters Tryz.func44 (by decide) (fun h => by cases h)

set_option maxHeartbeats 8000000 in
theorem sub_fn {k : Nat} {n2 : Int} {ds1 ds2 : List DE} (w : World) (h : bothB (k : Int) ds1 n2 ds2 = true) : SqFn 43 (sgV true ds1 ds2) (-3000) k w ds1 ds2 := by
  have e : ∀ p, sgV true ds1 ds2 p = dv (-3000) (ds1.getD p de0) + -dv (-3000) (ds2.getD p de0) := fun p => by unfold sgV; rw [if_pos rfl]
  obtain ⟨h0, h4, -, -, U1, U2⟩ := both_dok h
  intro w' R1 G1 S1 b1 R2 G2 S2 b2 kk s1 m1 s2 m2
  obtain ⟨W, hW⟩ : ∃ W, W = ((w'.alloc (.cells #[.slice (some ⟨R1, 0, none⟩) k k] 55)).alloc (.cells #[.slice (some ⟨R2, 0, none⟩) k k] 55)).alloc (.cells #[.slice none 0 0] 55) := ⟨_, rfl⟩
  have k0 : Kept 0 0 w' W := by rw [hW]; exact (((Kept.refl 0 0 w').alloc _).alloc _).alloc _
  have c0 : W.cell? ⟨w'.heap.size, 0, none⟩ = some (.slice (some ⟨R1, 0, none⟩) k k) := by rw [hW]; exact old_cell _ (old_cell _ (new_cell2 _ _ _ _ _ _ (by simp) rfl))
  have d0 : W.cell? ⟨w'.heap.size + 1, 0, none⟩ = some (.slice (some ⟨R2, 0, none⟩) k k) := by rw [hW]; exact old_cell _ (new_cell2 _ _ _ _ _ _ (by simp) rfl)
  have q0 : W.cell? ⟨w'.heap.size + 2, 0, none⟩ = some (.slice none 0 0) := by rw [hW]; exact new_cell2 _ _ _ _ _ _ (by simp) rfl
  have qf : W.frozen? ⟨w'.heap.size + 2, 0, none⟩ = false := by rw [hW]; exact new_loose2 _ _ _ _ _ (by simp)
  have sW : W.heap.size = w'.heap.size + 3 := by rw [hW]; simp
  have kd : Kept 0 0 w' W.drew := k0.drew
  have he := eachS_impl (L := -3000) (V := fun p => -dv (-3000) (ds2.getD p de0)) 45 in_oppD W.drew (show k ≤ 1000 by omega) (s2.kept kd) (Nums.mod m2 kd.toMod) (fun p u w'' hp n d e => oppD_impl w'' n d e (dok_nv (U2 p hp) (by decide)))
  have hpl := fun w1 R G S F b (k1 : Kept 0 0 w' w1) (sq : SqG S w1 R k k G) (nm : Nums b S w1 (k * k) G F) (hq : ∀ p, p < k * k → NV (-3000) (-dv (-3000) (ds2.getD p de0)) (F p)) => plusS_impl (L := -3000) (V1 := fun p => dv (-3000) (ds1.getD p de0)) (V2 := fun p => -dv (-3000) (ds2.getD p de0)) w1 (show k ≤ 1000 by omega) (by decide) (s1.kept k1) (Nums.mod m1 k1.toMod) sq nm (fun p hp => dok_nv (U1 p hp) (by decide)) hq (fun p hp => by
    have := sgV_lt (ng := true) (U1 p hp) (U2 p hp)
    rw [e] at this
    exact this)
  have HPL := hide hpl
  have KD := hide kd
  have SW := hide sW
  have EE := hide e
  clear s1 s2 m1 m2 k0 kd sW hpl U1 U2 kk e
  go_enter Tryz.func43, Tryz.ntmps43
  go_wp2_with fail
  rw [← hW]
  clear hW
  have kdd := (Kept.refl 0 0 W).drew
  replace qf := kdd.loose0 (World.block_lt_of_cell? _ _ q0) qf
  replace q0 := kdd.cell0 q0
  replace c0 := kdd.cell0 c0
  replace d0 := kdd.cell0 d0
  clear kdd
  refine wp_region_held_drew (S := (fun w'' => w''.cell? ⟨w'.heap.size, 0, none⟩ = some (.slice (some ⟨R1, 0, none⟩) k k) ∧ w''.cell? ⟨w'.heap.size + 1, 0, none⟩ = some (.slice (some ⟨R2, 0, none⟩) k k))) (by kernel_rfl) ?_ (fun hHeld => ?_)
  · exact ⟨c0, d0⟩
  refine wpAnyH_take (i := 0) (oi := _) (v := .agg #[.slice (some ⟨R1, 0, none⟩) k k]) rfl (by kernel_rfl) (by kernel_rfl) (by kernel_rfl) (fun _ _ _ h => h) (Or.inl ⟨by rfl, ?_⟩) hHeld ?_
  · intro wq hSw
    try dsimp only at hSw
    go_simp
  try simp only [Act.put, List.getElem_toArray, List.getElem_cons_succ, List.getElem_cons_zero, List.setIfInBounds_toArray, List.set_cons_zero, List.set_cons_succ]
  refine wpAnyH_take (i := 1) (oi := _) (v := .agg #[.slice (some ⟨R2, 0, none⟩) k k]) rfl (by kernel_rfl) (by kernel_rfl) (by kernel_rfl) (fun _ _ _ h => h) (Or.inl ⟨by rfl, ?_⟩) hHeld ?_
  · intro wq hSw
    try dsimp only at hSw
    go_simp
  try simp only [Act.put, List.getElem_toArray, List.getElem_cons_succ, List.getElem_cons_zero, List.setIfInBounds_toArray, List.set_cons_zero, List.set_cons_succ]
  refine wpAnyH_ready (rs := [2]) (by kernel_rfl) (by simp) ?_
  refine AllReadyH.cons rfl (fun KK hK => ?_) AllReadyH.nil
  simp only [List.getElem_toArray, List.getElem_cons_succ, List.getElem_cons_zero]
  rw [if_pos (by rfl)]
  refine wps2 44 (.tmp 6) (.func 45) _ rfl in_eachS (.agg #[.slice (some ⟨R2, 0, none⟩) k k]) (.func (.func 45) #[] #[]) rfl rfl he ?_
  rintro e w1 ⟨R, G, S, F, rfl, sq, nm, hq, hS, k1⟩
  refine ⟨_, rfl, ?_⟩
  have hp2 := unhide HPL w1 R G S F _ ((unhide KD).trans k1) sq nm hq
  replace qf := k1.loose0 (World.block_lt_of_cell? _ _ q0) qf
  replace q0 := k1.cell0 q0
  replace c0 := k1.cell0 c0
  replace d0 := k1.cell0 d0
  have K1 := hide ((unhide KD).trans k1)
  have z1 : W.heap.size ≤ w1.heap.size := k1.size
  clear he HPL sq nm hq hS k1
  clear hHeld
  refine hK.out _ _ ?_ (fun hHeld => ?_)
  · exact ⟨c0, d0⟩
  clear hK KK
  try simp only [Act.put, List.getElem_toArray, List.getElem_cons_succ, List.getElem_cons_zero, List.setIfInBounds_toArray, List.set_cons_zero, List.set_cons_succ]
  refine wpAnyH_ready (rs := [3]) (by kernel_rfl) (by simp) ?_
  refine AllReadyH.cons rfl (fun KK hK => ?_) AllReadyH.nil
  simp only [List.getElem_toArray, List.getElem_cons_succ, List.getElem_cons_zero]
  rw [if_pos (by rfl)]
  refine wps2 41 (.tmp 5) (.tmp 7) _ rfl in_fn_add (.agg #[.slice (some ⟨R1, 0, none⟩) k k]) (.agg #[.slice (some ⟨R, 0, none⟩) k k]) rfl rfl hp2 ?_
  rintro e w2 ⟨R5, G5, S5, F5, rfl, sq, nm, hq, hS, k2⟩
  refine ⟨_, rfl, ?_⟩
  replace qf := k2.loose0 (World.block_lt_of_cell? _ _ q0) qf
  replace q0 := k2.cell0 q0
  replace c0 := k2.cell0 c0
  replace d0 := k2.cell0 d0
  have sW := unhide SW
  have hR5 : w'.heap.size + 3 ≤ R5 := by have := hS R5 sq.2.1; omega
  have E1 := cell_on w2 (w'.heap.size + 2) 0 (.slice (some ⟨R5, 0, none⟩) k k) _ q0
  have ks : Kept (w'.heap.size + 2) (w'.heap.size + 3) w2 (w2.setCell ⟨w'.heap.size + 2, 0, none⟩ (.slice (some ⟨R5, 0, none⟩) k k)) := (Kept.refl _ _ _).setCell (p := ⟨w'.heap.size + 2, 0, none⟩) (Nat.le_refl _) (Nat.lt_succ_self _) _
  have S2 : Hid (SqG S5 (w2.setCell ⟨w'.heap.size + 2, 0, none⟩ (.slice (some ⟨R5, 0, none⟩) k k)) R5 k k G5 ∧ Nums w'.heap.size S5 (w2.setCell ⟨w'.heap.size + 2, 0, none⟩ (.slice (some ⟨R5, 0, none⟩) k k)) (k * k) G5 F5 ∧ (∀ p, p < k * k → NV (-3000) (sgV true ds1 ds2 p) (F5 p))) :=
    ⟨sq.keptY ks hR5, (nm.win ks (by omega)).less (by omega), fun p hp => by rw [unhide EE]; exact hq p hp⟩
  have K2 := hide (((unhide K1).trans k2).wide ks (by omega))
  clear hp2 sq nm hq hS k2 ks K1 KD
  clear hHeld
  refine hK.out _ _ ?_ (fun hHeld => ?_)
  · exact ⟨c0, d0⟩
  clear hK KK
  try simp only [Act.put, List.getElem_toArray, List.getElem_cons_succ, List.getElem_cons_zero, List.setIfInBounds_toArray, List.set_cons_zero, List.set_cons_succ]
  refine wpAnyH_ready (rs := [4]) (by kernel_rfl) (by simp) ?_
  refine AllReadyH.cons rfl (fun KK hK => ?_) AllReadyH.nil
  simp only [List.getElem_toArray, List.getElem_cons_succ, List.getElem_cons_zero]
  rw [if_pos (by rfl)]
  go_simp
  clear hHeld
  refine hK.out _ _ ?_ (fun hHeld => ?_)
  · exact ⟨cell_aside _ (by dsimp only; omega) c0, cell_aside _ (by dsimp only; omega) d0⟩
  clear hK KK
  try simp only [Act.put, List.getElem_toArray, List.getElem_cons_succ, List.getElem_cons_zero, List.setIfInBounds_toArray, List.set_cons_zero, List.set_cons_succ]
  refine wpAnyH_done (by kernel_rfl) ?_ _
  clear hHeld c0 d0
  go_wp2_with fail
  exact bodyPost_ret (v := .agg #[.slice (some ⟨R5, 0, none⟩) k k]) (by simp [results, Tryz.results43, go_sem, E1]) rfl ⟨R5, G5, S5, F5, rfl, (unhide S2).1, (unhide S2).2.1, (unhide S2).2.2, unhide K2⟩

theorem in_spec_MatSub : ∀ (w : World) (args : Array Value), (callFunc 19 args).run Tryz.prog w = .ok (.enter 19 args) w := enters Tryz.func19 (by decide) (fun h => by cases h)

theorem in_impl_MatSub : ∀ (w : World) (args : Array Value), (callFunc 20 args).run Tryz.prog w = .ok (.enter 20 args) w := enters Tryz.func20 (by decide) (fun h => by cases h)

theorem in_fn_sub : ∀ (w : World) (args : Array Value), (callFunc 43 args).run Tryz.prog w = .ok (.enter 43 args) w := enters Tryz.func43 (by decide) (fun h => by cases h)

set_option maxHeartbeats 8000000 in
theorem matsub_impl {lo1 hi1 lo2 hi2 : Nat} {v1 v2 : Value} {ds1 ds2 : List DE} (n1 n2 : Int) (w : World) (hw1 : WfD ds1) (hw2 : WfD ds2) (r1 : Dys lo1 hi1 w v1 ds1) (r2 : Dys lo2 hi2 w v2 ds2) (T : TabB w) :
    Calls Tryz.prog 20 #[.agg #[.int .i64 n1, v1], .agg #[.int .i64 n2, v2]] w fun e w' => ∃ v', e = .returned (.tuple #[.agg #[.int .i64 (twN (bothB n1 ds1 n2 ds2) (sgV true ds1 ds2) (-3000) n1), v'], .bool (twB (bothB n1 ds1 n2 ds2) (sgV true ds1 ds2) (-3000) n1)]) ∧ DysO w.heap.size w'.heap.size w' v' (twL (bothB n1 ds1 n2 ds2) (sgV true ds1 ds2) (-3000) n1) ∧ Kept 0 0 w w' := by
  obtain ⟨W, hW⟩ : ∃ W, W = ((w.alloc (.cells #[.int .i64 n1, v1] 37)).alloc (.cells #[.int .i64 n2, v2] 37)).alloc (.cells #[.int .i64 0, .slice none 0 0] 37) := ⟨_, rfl⟩
  have k0 : Kept 0 0 w W := by rw [hW]; exact (((Kept.refl 0 0 w).alloc _).alloc _).alloc _
  have c0 : W.cell? ⟨w.heap.size, 0, none⟩ = some (.int .i64 n1) := by rw [hW]; exact old_cell _ (old_cell _ (new_cell2 _ _ _ _ _ _ (by simp) rfl))
  have c1 : W.cell? ⟨w.heap.size, 1, none⟩ = some v1 := by rw [hW]; exact old_cell _ (old_cell _ (new_cell2 _ _ _ _ _ _ (by simp) rfl))
  have d0 : W.cell? ⟨w.heap.size + 1, 0, none⟩ = some (.int .i64 n2) := by rw [hW]; exact old_cell _ (new_cell2 _ _ _ _ _ _ (by simp) rfl)
  have d1 : W.cell? ⟨w.heap.size + 1, 1, none⟩ = some v2 := by rw [hW]; exact old_cell _ (new_cell2 _ _ _ _ _ _ (by simp) rfl)
  have q0 : W.cell? ⟨w.heap.size + 2, 0, none⟩ = some (.int .i64 0) := by rw [hW]; exact new_cell2 _ _ _ _ _ _ (by simp) rfl
  have q1 : W.cell? ⟨w.heap.size + 2, 1, none⟩ = some (.slice none 0 0) := by rw [hW]; exact new_cell2 _ _ _ _ _ _ (by simp) rfl
  have f0 : W.frozen? ⟨w.heap.size + 2, 0, none⟩ = false := by rw [hW]; exact new_loose2 _ _ _ _ _ (by simp)
  have f1 : W.frozen? ⟨w.heap.size + 2, 1, none⟩ = false := by rw [hW]; exact new_loose2 _ _ _ _ _ (by simp)
  have sW : W.heap.size = w.heap.size + 3 := by rw [hW]; simp
  have ho := ofTwo_impl n1 n2 43 in_fn_sub (sgV true ds1 ds2) (-3000) (by decide) W hw1 hw2 (r1.kept k0 (by omega)) (r2.kept k0 (by omega)) (T.kept k0) (fun k hk hb => by subst hk; exact sub_fn W hb)
  obtain ⟨a1, e1, rfl, -, -⟩ := r1.form
  obtain ⟨a2, e2, rfl, -, -⟩ := r2.form
  obtain ⟨X1, hX1⟩ : ∃ x, x = twN (bothB n1 ds1 n2 ds2) (sgV true ds1 ds2) (-3000) n1 := ⟨_, rfl⟩
  obtain ⟨X2, hX2⟩ : ∃ x, x = twB (bothB n1 ds1 n2 ds2) (sgV true ds1 ds2) (-3000) n1 := ⟨_, rfl⟩
  obtain ⟨X3, hX3⟩ : ∃ x, x = twL (bothB n1 ds1 n2 ds2) (sgV true ds1 ds2) (-3000) n1 := ⟨_, rfl⟩
  rw [← hX1, ← hX2, ← hX3] at ho ⊢
  rw [hW] at ho
  clear r1 r2 T hX1 hX2 hX3
  go_enter Tryz.func20, Tryz.ntmps20
  go_wp2_with fail
  rw [← hW] at ho ⊢
  clear hW
  refine ho.mono ?_
  rintro e w5 ⟨v5, rfl, r5, k5⟩
  obtain ⟨a5, d5, hv5⟩ := r5.form'
  subst hv5
  replace f0 := k5.loose0 (World.block_lt_of_cell? _ _ q0) f0
  replace f1 := k5.loose0 (World.block_lt_of_cell? _ _ q1) f1
  replace q0 := k5.cell0 q0
  replace q1 := k5.cell0 q1
  have z5 := k5.size
  have K7 := hide (((k0.trans k5).setNew (p := ⟨w.heap.size + 2, 0, none⟩) (by dsimp only; omega) (.int .i64 X1)).setNew (p := ⟨w.heap.size + 2, 1, none⟩) (by dsimp only; omega) (.slice a5 X3.length d5))
  have ks : Kept (w.heap.size + 2) (w.heap.size + 3) w5 ((w5.setCell ⟨w.heap.size + 2, 0, none⟩ (.int .i64 X1)).setCell ⟨w.heap.size + 2, 1, none⟩ (.slice a5 X3.length d5)) :=
    ((Kept.refl _ _ _).setCell (p := ⟨w.heap.size + 2, 0, none⟩) (Nat.le_refl _) (Nat.lt_succ_self _) _).setCell (p := ⟨w.heap.size + 2, 1, none⟩) (Nat.le_refl _) (Nat.lt_succ_self _) _
  have hsz : ((w5.setCell ⟨w.heap.size + 2, 0, none⟩ (.int .i64 X1)).setCell ⟨w.heap.size + 2, 1, none⟩ (.slice a5 X3.length d5)).heap.size = w5.heap.size := by rw [size_set, size_set]
  have R7 := hide ((r5.kept ks (by omega)).wider (lo' := w.heap.size) (hi' := ((w5.setCell ⟨w.heap.size + 2, 0, none⟩ (.int .i64 X1)).setCell ⟨w.heap.size + 2, 1, none⟩ (.slice a5 X3.length d5)).heap.size) (by omega) (by omega))
  clear ho r5 k5 ks hsz k0 c0 c1 d0 d1
  go_wp2
  exact bodyPost_ret (v := .tuple #[.agg #[.int .i64 X1, .slice a5 X3.length d5], .bool X2]) (by simp [results, Tryz.results20, go_sem, q0, q1]) rfl ⟨.slice a5 X3.length d5, rfl, unhide R7, unhide K7⟩

end Go.Proofs.YtagaofpkfpfilaaGreatDoor
