/-
  MatMul of the model.
-/
import Derived.Test.YtagaofpkfpfilaaGreatDoorMl8
import Derived.Test.YtagaofpkfpfilaaGreatDoorAd9
namespace Go.Proofs.YtagaofpkfpfilaaGreatDoor
open Go.RowKit
set_option linter.unusedVariables false
set_option maxRecDepth 8000
set_option linter.unusedSimpArgs false

theorem mulV_lt {k p : Nat} {ds1 ds2 : List DE} (h4 : k ≤ 4) (hp : p < k * k) (U1 : ∀ p, p < k * k → dOkE (ds1.getD p de0) = true) (U2 : ∀ p, p < k * k → dOkE (ds2.getD p de0) = true) : (mulV k ds1 ds2 p).natAbs < 2 ^ AA := by
  obtain ⟨h1, h2, -⟩ := turP_parts hp
  exact mulS_lt h4 h2 h1 (Nat.le_refl _) U1 U2

set_option maxHeartbeats 8000000 in
theorem matmul_spec {lo1 hi1 lo2 hi2 : Nat} {v1 v2 : Value} {ds1 ds2 : List DE} (n1 n2 : Int) (w : World) (hw1 : WfD ds1) (hw2 : WfD ds2) (r1 : Dys lo1 hi1 w v1 ds1) (r2 : Dys lo2 hi2 w v2 ds2) :
    Calls Tryz.prog 21 #[.agg #[.int .i64 n1, v1], .agg #[.int .i64 n2, v2]] w fun e w' => ∃ v', e = .returned (.tuple #[.agg #[.int .i64 (twN (bothB n1 ds1 n2 ds2) (mulV n1.toNat ds1 ds2) (-6000) n1), v'], .bool (twB (bothB n1 ds1 n2 ds2) (mulV n1.toNat ds1 ds2) (-6000) n1)]) ∧ DysO w.heap.size w'.heap.size w' v' (twL (bothB n1 ds1 n2 ds2) (mulV n1.toNat ds1 ds2) (-6000) n1) ∧ Kept 0 0 w w' := by
  obtain ⟨W, hW⟩ : ∃ W, W = ((w.alloc (.cells #[.int .i64 n1, v1] 37)).alloc (.cells #[.int .i64 n2, v2] 37)).alloc (.cells #[.int .i64 0, .slice none 0 0] 37) := ⟨_, rfl⟩
  have k0 : Kept 0 0 w W := by rw [hW]; exact (((Kept.refl 0 0 w).alloc _).alloc _).alloc _
  have c0 : W.cell? ⟨w.heap.size, 0, none⟩ = some (.int .i64 n1) := by rw [hW]; exact old_cell _ (old_cell _ (new_cell2 _ _ _ _ _ _ (by simp) rfl))
  have c1 : W.cell? ⟨w.heap.size, 1, none⟩ = some v1 := by rw [hW]; exact old_cell _ (old_cell _ (new_cell2 _ _ _ _ _ _ (by simp) rfl))
  have d0 : W.cell? ⟨w.heap.size + 1, 0, none⟩ = some (.int .i64 n2) := by rw [hW]; exact old_cell _ (new_cell2 _ _ _ _ _ _ (by simp) rfl)
  have d1 : W.cell? ⟨w.heap.size + 1, 1, none⟩ = some v2 := by rw [hW]; exact old_cell _ (new_cell2 _ _ _ _ _ _ (by simp) rfl)
  have q0 : W.cell? ⟨w.heap.size + 2, 0, none⟩ = some (.int .i64 0) := by rw [hW]; exact new_cell2 _ _ _ _ _ _ (by simp) rfl
  have q1 : W.cell? ⟨w.heap.size + 2, 1, none⟩ = some (.slice none 0 0) := by rw [hW]; exact new_cell2 _ _ _ _ _ _ (by simp) rfl
  have f0 : W.frozen? ⟨w.heap.size + 2, 0, none⟩ = false := by rw [hW]; exact new_loose2 _ _ _ _ _ (by simp)
  have f1 : W.frozen? ⟨w.heap.size + 2, 1, none⟩ = false := by rw [hW]; exact new_loose2 _ _ _ _ _ (by simp)
  have sW : W.heap.size = w.heap.size + 3 := by rw [hW]; simp
  have R10 := hide (r1.kept k0 (by omega))
  have R20 := hide (r2.kept k0 (by omega))
  have ho := both8_spec n1 n2 W hw1 hw2 (unhide R10) (unhide R20)
  obtain ⟨a1, e1, rfl, -, -⟩ := r1.form
  obtain ⟨a2, e2, rfl, -, -⟩ := r2.form
  rw [hW] at ho
  clear r1 r2
  go_enter Tryz.func21, Tryz.ntmps21
  go_wp2_with fail
  rw [← hW] at ho ⊢
  clear hW
  refine ho.mono ?_
  rintro e w1 ⟨rfl, k1⟩
  replace f0 := k1.loose0 (World.block_lt_of_cell? _ _ q0) f0
  replace f1 := k1.loose0 (World.block_lt_of_cell? _ _ q1) f1
  replace c0 := k1.cell0 c0
  replace c1 := k1.cell0 c1
  replace d0 := k1.cell0 d0
  replace d1 := k1.cell0 d1
  replace q0 := k1.cell0 q0
  replace q1 := k1.cell0 q1
  have K1 := hide (k0.trans k1)
  have z1 := k1.size
  have KB := hide k1
  clear ho k0 k1
  cases hb : bothB n1 ds1 n2 ds2
  · have K7 := hide (((unhide K1).setNew (p := ⟨w.heap.size + 2, 0, none⟩) (by dsimp only; omega) (.int .i64 0)).setNew (p := ⟨w.heap.size + 2, 1, none⟩) (by dsimp only; omega) (.slice none 0 0))
    have HB := hide hb
    clear K1 hb
    go_wp2
    exact bodyPost_ret (v := .tuple #[.agg #[.int .i64 0, .slice none 0 0], .bool false]) (by simp [results, Tryz.results21, go_sem, q0, q1]) rfl ⟨.slice none 0 0, by rw [unhide HB]; rfl, by rw [unhide HB]; exact DysO.void _ _ _, unhide K7⟩
  obtain ⟨g1, g4⟩ := both_n hb
  obtain ⟨k, rfl⟩ := Int.eq_ofNat_of_zero_le (show 0 ≤ n1 by omega)
  obtain ⟨p1, p2, p3⟩ := both_parts hb
  subst p3
  obtain ⟨-, -, u3, U1⟩ := mok_partsA p1
  obtain ⟨-, -, u5, U2⟩ := mok_partsA p2
  have l1 : ds1.length = k * k := by rw [← Int.natCast_mul] at u3; omega
  have l2 : ds2.length = k * k := by rw [← Int.natCast_mul] at u5; omega
  have HVL : ∀ p, p < k * k → (mulV k ds1 ds2 p).natAbs < 2 ^ AA := fun p hp => mulV_lt (by omega) hp (fun q hq => U1 q (by omega)) (fun q hq => U2 q (by omega))
  have HBO := hide hb
  have hop := mul8_spec (k : Int) w1 (show 0 < k by omega) (show k ≤ 4 by omega) l1 l2 U1 U2 ((unhide R10).kept (unhide KB) (by omega)) ((unhide R20).kept (unhide KB) (by omega))
  obtain ⟨PL, hPL⟩ : ∃ PL, PL = (List.range (k * k)).map fun p => nE ((mulV k ds1 ds2) p) (-6000) := ⟨_, rfl⟩
  have HPN := hide (show PL.length ≤ 100 by rw [hPL]; simp; have := Nat.mul_le_mul (show k ≤ 4 by omega) (show k ≤ 4 by omega); omega)
  have HWF : Hid (WfD PL) := fun i hi => by
    have hi2 : i < k * k := by rw [hPL] at hi; simpa using hi
    rw [hPL, map_at _ _ _ hi2]
    exact dex_range _ _ (by decide) (by decide) (HVL i hi2) (by unfold AA; decide)
  have HWN : Hid (AllWN PL) := fun i hi => by
    have hi2 : i < k * k := by rw [hPL] at hi; simpa using hi
    rw [hPL, map_at _ _ _ hi2]
    exact ⟨nE_wn _, Nat.le_trans (dlm_lenV (HVL i hi2) (show AA ≤ 16 * 2500 by decide)) (by decide)⟩
  obtain ⟨t1, t2, t3⟩ := tw_fit (k := k) (V := mulV k ds1 ds2) (L := -6000) (by omega) (by omega)
  rw [← hPL] at hop t1 t2 t3
  obtain ⟨X1, hX1⟩ : ∃ x, x = twN true (mulV k ds1 ds2) (-6000) (k : Int) := ⟨_, rfl⟩
  obtain ⟨X2, hX2⟩ : ∃ x, x = twB true (mulV k ds1 ds2) (-6000) (k : Int) := ⟨_, rfl⟩
  obtain ⟨X3, hX3⟩ : ∃ x, x = twL true (mulV k ds1 ds2) (-6000) (k : Int) := ⟨_, rfl⟩
  rw [← hX2] at t1
  rw [← hX1] at t2
  rw [← hX3] at t3
  have HX1 := hide hX1
  have HX2 := hide hX2
  have HX3 := hide hX3
  have T1 := hide t1
  have T2 := hide t2
  have T3 := hide t3
  clear g1 g4 hPL HVL hX1 hX2 hX3 t1 t2 t3 p1 p2 u3 u5 U1 U2 l1 l2 KB R10 R20 hw1 hw2 hb
  go_wp2_with fail
  refine hop.mono ?_
  rintro e w3 ⟨v3, rfl, r3, k3⟩
  have hft := fits8_spec (k : Int) w3 (unhide HPN) (unhide HWF) (unhide HWN) r3.read
  rw [unhide T1, unhide T2, unhide T3] at hft
  obtain ⟨a3, d3, hv3⟩ := r3.form'
  subst hv3
  replace f0 := k3.loose0 (World.block_lt_of_cell? _ _ q0) f0
  replace f1 := k3.loose0 (World.block_lt_of_cell? _ _ q1) f1
  replace q0 := k3.cell0 q0
  replace q1 := k3.cell0 q1
  have K3 := hide ((unhide K1).trans k3)
  have z3 := k3.size
  clear hop r3 k3 K1 c0 c1 d0 d1
  go_wp2_with fail
  refine hft.mono ?_
  rintro e w5 ⟨v5, rfl, r5, k5⟩
  obtain ⟨a5, d5, hv5⟩ := r5.form'
  subst hv5
  replace f0 := k5.loose0 (World.block_lt_of_cell? _ _ q0) f0
  replace f1 := k5.loose0 (World.block_lt_of_cell? _ _ q1) f1
  replace q0 := k5.cell0 q0
  replace q1 := k5.cell0 q1
  have z5 := k5.size
  have K7 := hide ((((unhide K3).trans k5).setNew (p := ⟨w.heap.size + 2, 0, none⟩) (by dsimp only; omega) (.int .i64 X1)).setNew (p := ⟨w.heap.size + 2, 1, none⟩) (by dsimp only; omega) (.slice a5 X3.length d5))
  have ks : Kept (w.heap.size + 2) (w.heap.size + 3) w5 ((w5.setCell ⟨w.heap.size + 2, 0, none⟩ (.int .i64 X1)).setCell ⟨w.heap.size + 2, 1, none⟩ (.slice a5 X3.length d5)) :=
    ((Kept.refl _ _ _).setCell (p := ⟨w.heap.size + 2, 0, none⟩) (Nat.le_refl _) (Nat.lt_succ_self _) _).setCell (p := ⟨w.heap.size + 2, 1, none⟩) (Nat.le_refl _) (Nat.lt_succ_self _) _
  have hsz : ((w5.setCell ⟨w.heap.size + 2, 0, none⟩ (.int .i64 X1)).setCell ⟨w.heap.size + 2, 1, none⟩ (.slice a5 X3.length d5)).heap.size = w5.heap.size := by rw [size_set, size_set]
  have R7 := hide ((r5.kept ks (by omega)).wider (lo' := w.heap.size) (hi' := ((w5.setCell ⟨w.heap.size + 2, 0, none⟩ (.int .i64 X1)).setCell ⟨w.heap.size + 2, 1, none⟩ (.slice a5 X3.length d5)).heap.size) (by omega) (by omega))
  clear hft r5 k5 ks hsz K3
  go_wp2
  exact bodyPost_ret (v := .tuple #[.agg #[.int .i64 X1, .slice a5 X3.length d5], .bool X2]) (by simp [results, Tryz.results21, go_sem, q0, q1]) rfl ⟨.slice a5 X3.length d5, by rw [unhide HBO, unhide HX1, unhide HX2]; rfl, by rw [unhide HBO]; show DysO _ _ _ _ (twL true (mulV k ds1 ds2) (-6000) (k : Int)); rw [← unhide HX3]; exact unhide R7, unhide K7⟩

end Go.Proofs.YtagaofpkfpfilaaGreatDoor
