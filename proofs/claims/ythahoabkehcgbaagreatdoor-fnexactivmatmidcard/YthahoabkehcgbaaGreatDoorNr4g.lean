/-
  The model's norm of a matrix.
-/
import Derived.Test.YthahoabkehcgbaaGreatDoorNr3
import Derived.Test.YthahoabkehcgbaaGreatDoorMtr2
import Derived.Test.YthahoabkehcgbaaGreatDoorDy4
import Derived.Deep.DeepCutAuto
import Derived.Deep.RegionHeld3
namespace Go.Proofs.YthahoabkehcgbaaGreatDoor
open Go.RowKit
set_option linter.unusedVariables false
set_option maxRecDepth 8000
set_option linter.unusedSimpArgs false

def pkN {α : Type} (c : Bool) (a b : α) : α := if c = true then b else a

set_option maxHeartbeats 2000000 in
theorem cmp4_wide {b1 b2 : Bool} {l1 h1 l2 h2 : Nat} {v1 v2 : Value} {xs ys : List Int} (s1 s2 : Bool) (x1 x2 : Int) (w : World) (r1 : Row .i64 b1 l1 h1 w v1 xs) (r2 : Row .i64 b2 l2 h2 w v2 ys) (o1 : WB s1 xs x1) (o2 : WB s2 ys x2) :
    Calls Tryz.prog 158 #[.agg #[.bool s1, v1, .int .i64 x1], .agg #[.bool s2, v2, .int .i64 x2]] w fun e w' => e = .returned (.int .i64 (cmpDI (wval s1 xs) x1 (wval s2 ys) x2)) ∧ Kept 0 0 w w' := by
  have k0 : Kept 0 0 w ((w.alloc (.cells #[.bool s1, v1, .int .i64 x1] 52)).alloc (.cells #[.bool s2, v2, .int .i64 x2] 52)) := (((Kept.refl 0 0 w).alloc (.cells #[.bool s1, v1, .int .i64 x1] 52)).alloc (.cells #[.bool s2, v2, .int .i64 x2] 52))
  have p0 : ((w.alloc (.cells #[.bool s1, v1, .int .i64 x1] 52)).alloc (.cells #[.bool s2, v2, .int .i64 x2] 52)).cell? ⟨w.heap.size, 0, none⟩ = some (.bool s1) := old_cell _ (new_cell2 _ _ _ _ _ _ (by simp) rfl)
  have p1 : ((w.alloc (.cells #[.bool s1, v1, .int .i64 x1] 52)).alloc (.cells #[.bool s2, v2, .int .i64 x2] 52)).cell? ⟨w.heap.size, 1, none⟩ = some (v1) := old_cell _ (new_cell2 _ _ _ _ _ _ (by simp) rfl)
  have p2 : ((w.alloc (.cells #[.bool s1, v1, .int .i64 x1] 52)).alloc (.cells #[.bool s2, v2, .int .i64 x2] 52)).cell? ⟨w.heap.size, 2, none⟩ = some (.int .i64 x1) := old_cell _ (new_cell2 _ _ _ _ _ _ (by simp) rfl)
  have t0 : ((w.alloc (.cells #[.bool s1, v1, .int .i64 x1] 52)).alloc (.cells #[.bool s2, v2, .int .i64 x2] 52)).cell? ⟨w.heap.size + 1, 0, none⟩ = some (.bool s2) := new_cell2 _ _ _ _ _ _ (by simp) rfl
  have t1 : ((w.alloc (.cells #[.bool s1, v1, .int .i64 x1] 52)).alloc (.cells #[.bool s2, v2, .int .i64 x2] 52)).cell? ⟨w.heap.size + 1, 1, none⟩ = some (v2) := new_cell2 _ _ _ _ _ _ (by simp) rfl
  have t2 : ((w.alloc (.cells #[.bool s1, v1, .int .i64 x1] 52)).alloc (.cells #[.bool s2, v2, .int .i64 x2] 52)).cell? ⟨w.heap.size + 1, 2, none⟩ = some (.int .i64 x2) := new_cell2 _ _ _ _ _ _ (by simp) rfl
  replace r1 := r1.kept k0 (by omega)
  replace r2 := r2.kept k0 (by omega)
  have s0 : ((w.alloc (.cells #[.bool s1, v1, .int .i64 x1] 52)).alloc (.cells #[.bool s2, v2, .int .i64 x2] 52)).heap.size = w.heap.size + 2 := by simp
  obtain ⟨a1, c1, hv⟩ := r1.form'
  subst hv
  obtain ⟨a2, c2, hv⟩ := r2.form'
  subst hv
  have K := hide (k0)
  clear k0
  have S0 := hide s0
  clear s0
  go_enter Tryz.func158, Tryz.ntmps158
  go_wp2_with fail
  generalize ((w.alloc (.cells #[.bool s1, .slice a1 xs.length c1, .int .i64 x1] 52)).alloc (.cells #[.bool s2, .slice a2 ys.length c2, .int .i64 x2] 52)) = W at *
  refine (align4_wide s1 s2 x1 x2 _ r1 r2 o1 o2).mono ?_
  rintro e w1 ⟨u1, u2, sA, sB, zA, zB, E, rfl, ra, rb, ⟨m1, m2, -, -, al, f1, f2⟩, k1⟩
  replace r1 := r1.kept k1 (.inr (.inr (Nat.le_refl 0)))
  replace r2 := r2.kept k1 (.inr (.inr (Nat.le_refl 0)))
  replace p0 := k1.cell0 p0
  replace p1 := k1.cell0 p1
  replace p2 := k1.cell0 p2
  replace t0 := k1.cell0 t0
  replace t1 := k1.cell0 t1
  replace t2 := k1.cell0 t2
  replace K := hide ((unhide K).trans k1)
  have z2 := k1.size
  clear k1
  have EQ := hide (cmp_alg al)
  rw [← f1, ← f2] at EQ
  clear al f1 f2
  obtain ⟨a5, c5, hv⟩ := Row.form' ra
  subst hv
  obtain ⟨a6, c6, hv⟩ := Row.form' rb
  subst hv
  have kn := (Kept.refl 0 0 w1).alloc (.cells #[.bool sA, .slice a5 zA.length c5] 50)
  have d0 : (w1.alloc (.cells #[.bool sA, .slice a5 zA.length c5] 50)).cell? ⟨w1.heap.size, 0, none⟩ = some (.bool sA) := new_cell2 _ _ _ _ _ _ (by simp) rfl
  have d1 : (w1.alloc (.cells #[.bool sA, .slice a5 zA.length c5] 50)).cell? ⟨w1.heap.size, 1, none⟩ = some (.slice a5 zA.length c5) := new_cell2 _ _ _ _ _ _ (by simp) rfl
  have sz3 : w1.heap.size + 1 ≤ (w1.alloc (.cells #[.bool sA, .slice a5 zA.length c5] 50)).heap.size := by simp
  replace r1 := r1.kept kn (.inr (.inr (Nat.le_refl 0)))
  replace r2 := r2.kept kn (.inr (.inr (Nat.le_refl 0)))
  replace ra := ra.kept kn (.inr (.inr (Nat.le_refl 0)))
  replace rb := rb.kept kn (.inr (.inr (Nat.le_refl 0)))
  replace p0 := kn.cell0 p0
  replace p1 := kn.cell0 p1
  replace p2 := kn.cell0 p2
  replace t0 := kn.cell0 t0
  replace t1 := kn.cell0 t1
  replace t2 := kn.cell0 t2
  replace K := hide ((unhide K).trans kn)
  have z4 := kn.size
  clear kn
  have kn := (Kept.refl 0 0 (w1.alloc (.cells #[.bool sA, .slice a5 zA.length c5] 50))).alloc (.cells #[.bool sB, .slice a6 zB.length c6] 50)
  have e0 : ((w1.alloc (.cells #[.bool sA, .slice a5 zA.length c5] 50)).alloc (.cells #[.bool sB, .slice a6 zB.length c6] 50)).cell? ⟨w1.heap.size + 1, 0, none⟩ = some (.bool sB) := new_cell2 _ _ _ _ _ _ (by simp) rfl
  have e1 : ((w1.alloc (.cells #[.bool sA, .slice a5 zA.length c5] 50)).alloc (.cells #[.bool sB, .slice a6 zB.length c6] 50)).cell? ⟨w1.heap.size + 1, 1, none⟩ = some (.slice a6 zB.length c6) := new_cell2 _ _ _ _ _ _ (by simp) rfl
  have sz5 : (w1.alloc (.cells #[.bool sA, .slice a5 zA.length c5] 50)).heap.size + 1 ≤ ((w1.alloc (.cells #[.bool sA, .slice a5 zA.length c5] 50)).alloc (.cells #[.bool sB, .slice a6 zB.length c6] 50)).heap.size := by simp
  replace r1 := r1.kept kn (.inr (.inr (Nat.le_refl 0)))
  replace r2 := r2.kept kn (.inr (.inr (Nat.le_refl 0)))
  replace ra := ra.kept kn (.inr (.inr (Nat.le_refl 0)))
  replace rb := rb.kept kn (.inr (.inr (Nat.le_refl 0)))
  replace p0 := kn.cell0 p0
  replace p1 := kn.cell0 p1
  replace p2 := kn.cell0 p2
  replace t0 := kn.cell0 t0
  replace t1 := kn.cell0 t1
  replace t2 := kn.cell0 t2
  replace d0 := kn.cell0 d0
  replace d1 := kn.cell0 d1
  replace K := hide ((unhide K).trans kn)
  have z6 := kn.size
  clear kn
  go_wp2_with fail
  generalize ((w1.alloc (.cells #[.bool sA, .slice a5 zA.length c5] 50)).alloc (.cells #[.bool sB, .slice a6 zB.length c6] 50)) = wn7 at *
  refine (cmp3_wn sA sB _ ra rb m1 m2).mono ?_
  rintro e w8 ⟨rfl, k8⟩
  replace r1 := r1.kept k8 (.inr (.inr (Nat.le_refl 0)))
  replace r2 := r2.kept k8 (.inr (.inr (Nat.le_refl 0)))
  replace ra := ra.kept k8 (.inr (.inr (Nat.le_refl 0)))
  replace rb := rb.kept k8 (.inr (.inr (Nat.le_refl 0)))
  replace p0 := k8.cell0 p0
  replace p1 := k8.cell0 p1
  replace p2 := k8.cell0 p2
  replace t0 := k8.cell0 t0
  replace t1 := k8.cell0 t1
  replace t2 := k8.cell0 t2
  replace d0 := k8.cell0 d0
  replace d1 := k8.cell0 d1
  replace e0 := k8.cell0 e0
  replace e1 := k8.cell0 e1
  replace K := hide ((unhide K).trans k8)
  have z9 := k8.size
  clear k8
  clear r1 r2 ra rb m1 m2
  go_wp2_with fail
  go_ret
  exact ⟨by rw [← unhide EQ]; rfl, unhide K⟩

set_option maxHeartbeats 2000000 in
theorem more8_spec {w1l w1h w2l w2h : Nat} {v1 v2 : Value} {l1 l2 : List Int} (s1 : Bool) (e1 : Int) (hu1 : e1 ≤ 9223372036854775807) (hd1 : -9223372036854775808 ≤ e1) (s2 : Bool) (e2 : Int) (hu2 : e2 ≤ 9223372036854775807) (hd2 : -9223372036854775808 ≤ e2) (w : World) (r1 : Row .i64 true w1l w1h w v1 l1) (r2 : Row .i64 true w2l w2h w v2 l2) {G H : Nat} (g1 : G ≤ w1l) (g2 : G ≤ w2l) (q1 : w1h ≤ H) (q2 : w2h ≤ H) (q3 : H ≤ w.heap.size) (o1 : WB s1 l1 e1) (o2 : WB s2 l2 e2) :
    Calls Tryz.prog 155 #[.agg #[.bool s1, v1, .int .i64 e1], .agg #[.bool s2, v2, .int .i64 e2]] w fun e w' => ∃ v', e = .returned (.agg #[.bool (pkN (decide (cmpDI (wval s1 l1) e1 (wval s2 l2) e2 < 0)) s1 s2), v', .int .i64 (pkN (decide (cmpDI (wval s1 l1) e1 (wval s2 l2) e2 < 0)) e1 e2)]) ∧ Row .i64 true G H w' v' (pkN (decide (cmpDI (wval s1 l1) e1 (wval s2 l2) e2 < 0)) l1 l2) ∧ Kept 0 0 w w' := by
  replace r1 := r1.wider (lo' := w1l) (Nat.le_refl _) q1
  replace r2 := r2.wider (lo' := w2l) (Nat.le_refl _) q2
  obtain ⟨C, hC⟩ : ∃ C, cmpDI (wval s1 l1) e1 (wval s2 l2) e2 = C := ⟨_, rfl⟩
  rw [hC]
  obtain ⟨c, hc⟩ : ∃ c, decide (C < 0) = c := ⟨_, rfl⟩
  rw [hc]
  have HC : Hid (c = decide (C < 0)) := hc.symm
  clear hc
  have mk := fun w' r1' r2' => cmp4_wide (b1 := true) (l1 := w1l) (h1 := H) (b2 := true) (l2 := w2l) (h2 := H) (v1 := v1) (v2 := v2) (xs := l1) (ys := l2) s1 s2 e1 e2 w' r1' r2' o1 o2
  rw [hC] at mk
  clear hC
  obtain ⟨SS, hSS⟩ : ∃ y, pkN c s1 s2 = y := ⟨_, rfl⟩
  obtain ⟨PP, hPP⟩ : ∃ y, pkN c l1 l2 = y := ⟨_, rfl⟩
  obtain ⟨EE, hEE⟩ : ∃ y, pkN c e1 e2 = y := ⟨_, rfl⟩
  rw [hSS, hPP, hEE]
  have HSS := hide hSS
  have HPP := hide hPP
  have HEE := hide hEE
  clear hSS hPP hEE
  have k0 : Kept 0 0 w (((w.alloc (.cells #[.bool s1, v1, .int .i64 e1] 52)).alloc (.cells #[.bool s2, v2, .int .i64 e2] 52)).alloc (.cells #[.bool false, .slice none 0 0, .int .i64 0] 52)) := ((((Kept.refl 0 0 w).alloc (.cells #[.bool s1, v1, .int .i64 e1] 52)).alloc (.cells #[.bool s2, v2, .int .i64 e2] 52)).alloc (.cells #[.bool false, .slice none 0 0, .int .i64 0] 52))
  have bp0 : (((w.alloc (.cells #[.bool s1, v1, .int .i64 e1] 52)).alloc (.cells #[.bool s2, v2, .int .i64 e2] 52)).alloc (.cells #[.bool false, .slice none 0 0, .int .i64 0] 52)).cell? ⟨w.heap.size, 0, none⟩ = some (.bool s1) := old_cell _ (old_cell _ (new_cell2 _ _ _ _ _ _ (by simp) rfl))
  have bp1 : (((w.alloc (.cells #[.bool s1, v1, .int .i64 e1] 52)).alloc (.cells #[.bool s2, v2, .int .i64 e2] 52)).alloc (.cells #[.bool false, .slice none 0 0, .int .i64 0] 52)).cell? ⟨w.heap.size, 1, none⟩ = some (v1) := old_cell _ (old_cell _ (new_cell2 _ _ _ _ _ _ (by simp) rfl))
  have bp2 : (((w.alloc (.cells #[.bool s1, v1, .int .i64 e1] 52)).alloc (.cells #[.bool s2, v2, .int .i64 e2] 52)).alloc (.cells #[.bool false, .slice none 0 0, .int .i64 0] 52)).cell? ⟨w.heap.size, 2, none⟩ = some (.int .i64 e1) := old_cell _ (old_cell _ (new_cell2 _ _ _ _ _ _ (by simp) rfl))
  have bq0 : (((w.alloc (.cells #[.bool s1, v1, .int .i64 e1] 52)).alloc (.cells #[.bool s2, v2, .int .i64 e2] 52)).alloc (.cells #[.bool false, .slice none 0 0, .int .i64 0] 52)).cell? ⟨w.heap.size + 1, 0, none⟩ = some (.bool s2) := old_cell _ (new_cell2 _ _ _ _ _ _ (by simp) rfl)
  have bq1 : (((w.alloc (.cells #[.bool s1, v1, .int .i64 e1] 52)).alloc (.cells #[.bool s2, v2, .int .i64 e2] 52)).alloc (.cells #[.bool false, .slice none 0 0, .int .i64 0] 52)).cell? ⟨w.heap.size + 1, 1, none⟩ = some (v2) := old_cell _ (new_cell2 _ _ _ _ _ _ (by simp) rfl)
  have bq2 : (((w.alloc (.cells #[.bool s1, v1, .int .i64 e1] 52)).alloc (.cells #[.bool s2, v2, .int .i64 e2] 52)).alloc (.cells #[.bool false, .slice none 0 0, .int .i64 0] 52)).cell? ⟨w.heap.size + 1, 2, none⟩ = some (.int .i64 e2) := old_cell _ (new_cell2 _ _ _ _ _ _ (by simp) rfl)
  have R0 : (((w.alloc (.cells #[.bool s1, v1, .int .i64 e1] 52)).alloc (.cells #[.bool s2, v2, .int .i64 e2] 52)).alloc (.cells #[.bool false, .slice none 0 0, .int .i64 0] 52)).cell? ⟨w.heap.size + 2, 0, none⟩ = some (.bool false) := new_cell2 _ _ _ _ _ _ (by simp) rfl
  have Rf0 : (((w.alloc (.cells #[.bool s1, v1, .int .i64 e1] 52)).alloc (.cells #[.bool s2, v2, .int .i64 e2] 52)).alloc (.cells #[.bool false, .slice none 0 0, .int .i64 0] 52)).frozen? ⟨w.heap.size + 2, 0, none⟩ = false := new_loose2 _ _ _ _ _ (by simp)
  have R1 : (((w.alloc (.cells #[.bool s1, v1, .int .i64 e1] 52)).alloc (.cells #[.bool s2, v2, .int .i64 e2] 52)).alloc (.cells #[.bool false, .slice none 0 0, .int .i64 0] 52)).cell? ⟨w.heap.size + 2, 1, none⟩ = some (.slice none 0 0) := new_cell2 _ _ _ _ _ _ (by simp) rfl
  have Rf1 : (((w.alloc (.cells #[.bool s1, v1, .int .i64 e1] 52)).alloc (.cells #[.bool s2, v2, .int .i64 e2] 52)).alloc (.cells #[.bool false, .slice none 0 0, .int .i64 0] 52)).frozen? ⟨w.heap.size + 2, 1, none⟩ = false := new_loose2 _ _ _ _ _ (by simp)
  have R2 : (((w.alloc (.cells #[.bool s1, v1, .int .i64 e1] 52)).alloc (.cells #[.bool s2, v2, .int .i64 e2] 52)).alloc (.cells #[.bool false, .slice none 0 0, .int .i64 0] 52)).cell? ⟨w.heap.size + 2, 2, none⟩ = some (.int .i64 0) := new_cell2 _ _ _ _ _ _ (by simp) rfl
  have Rf2 : (((w.alloc (.cells #[.bool s1, v1, .int .i64 e1] 52)).alloc (.cells #[.bool s2, v2, .int .i64 e2] 52)).alloc (.cells #[.bool false, .slice none 0 0, .int .i64 0] 52)).frozen? ⟨w.heap.size + 2, 2, none⟩ = false := new_loose2 _ _ _ _ _ (by simp)
  replace r1 := r1.kept k0 (by omega)
  replace r2 := r2.kept k0 (by omega)
  have s0 : (((w.alloc (.cells #[.bool s1, v1, .int .i64 e1] 52)).alloc (.cells #[.bool s2, v2, .int .i64 e2] 52)).alloc (.cells #[.bool false, .slice none 0 0, .int .i64 0] 52)).heap.size = w.heap.size + 3 := by simp
  obtain ⟨a1, d1, hv⟩ := r1.form'
  subst hv
  obtain ⟨a2, d2, hv⟩ := r2.form'
  subst hv
  have K := hide (k0)
  clear k0
  have S0 := hide s0
  clear s0
  go_enter Tryz.func155, Tryz.ntmps155
  go_wp2_with fail
  generalize (((w.alloc (.cells #[.bool s1, .slice a1 l1.length d1, .int .i64 e1] 52)).alloc (.cells #[.bool s2, .slice a2 l2.length d2, .int .i64 e2] 52)).alloc (.cells #[.bool false, .slice none 0 0, .int .i64 0] 52)) = W at *
  refine (mk _ r1 r2).mono ?_
  rintro e w1 ⟨rfl, k1⟩
  replace r1 := r1.kept k1 (.inr (.inr (Nat.le_refl 0)))
  replace r2 := r2.kept k1 (.inr (.inr (Nat.le_refl 0)))
  replace Rf0 := k1.loose0 (World.block_lt_of_cell? _ _ R0) Rf0
  replace Rf1 := k1.loose0 (World.block_lt_of_cell? _ _ R1) Rf1
  replace Rf2 := k1.loose0 (World.block_lt_of_cell? _ _ R2) Rf2
  replace bp0 := k1.cell0 bp0
  replace bp1 := k1.cell0 bp1
  replace bp2 := k1.cell0 bp2
  replace bq0 := k1.cell0 bq0
  replace bq1 := k1.cell0 bq1
  replace bq2 := k1.cell0 bq2
  replace R0 := k1.cell0 R0
  replace R1 := k1.cell0 R1
  replace R2 := k1.cell0 R2
  replace K := hide ((unhide K).trans k1)
  have z2 := k1.size
  clear k1
  clear mk
  by_cases hh : 0 ≤ C
  · have EC : Hid (c = false) := by show _ = _; rw [unhide HC]; exact decide_eq_false (by omega)
    have F : Hid (SS = s1 ∧ PP = l1 ∧ EE = e1) := ⟨by rw [← unhide HSS, unhide EC]; rfl, by rw [← unhide HPP, unhide EC]; rfl, by rw [← unhide HEE, unhide EC]; rfl⟩
    have RR := hide ((((r1.set_other (p := ⟨w.heap.size + 2, 0, none⟩) (.inr (by have := unhide S0; dsimp only; omega)) (.bool s1)).set_other (p := ⟨w.heap.size + 2, 1, none⟩) (.inr (by have := unhide S0; dsimp only; omega)) (.slice a1 l1.length d1)).set_other (p := ⟨w.heap.size + 2, 2, none⟩) (.inr (by have := unhide S0; dsimp only; omega)) (.int .i64 e1)).wider (lo' := G) g1 (Nat.le_refl _))
    have K7 := hide ((((unhide K).setNew (p := ⟨w.heap.size + 2, 0, none⟩) (by simp) (.bool s1)).setNew (p := ⟨w.heap.size + 2, 1, none⟩) (by simp) (.slice a1 l1.length d1)).setNew (p := ⟨w.heap.size + 2, 2, none⟩) (by simp) (.int .i64 e1))
    clear r1 r2 K
    go_wp2_with fail
    exact bodyPost_ret (v := .agg #[.bool s1, .slice a1 l1.length d1, .int .i64 e1]) (by simp [results, Tryz.results155, go_sem, R0, R1, R2]) rfl ⟨_, by rw [(unhide F).1, (unhide F).2.2], by rw [(unhide F).2.1]; exact unhide RR, unhide K7⟩
  · have EC : Hid (c = true) := by show _ = _; rw [unhide HC]; exact decide_eq_true (by omega)
    have F : Hid (SS = s2 ∧ PP = l2 ∧ EE = e2) := ⟨by rw [← unhide HSS, unhide EC]; rfl, by rw [← unhide HPP, unhide EC]; rfl, by rw [← unhide HEE, unhide EC]; rfl⟩
    have RR := hide ((((r2.set_other (p := ⟨w.heap.size + 2, 0, none⟩) (.inr (by have := unhide S0; dsimp only; omega)) (.bool s2)).set_other (p := ⟨w.heap.size + 2, 1, none⟩) (.inr (by have := unhide S0; dsimp only; omega)) (.slice a2 l2.length d2)).set_other (p := ⟨w.heap.size + 2, 2, none⟩) (.inr (by have := unhide S0; dsimp only; omega)) (.int .i64 e2)).wider (lo' := G) g2 (Nat.le_refl _))
    have K7 := hide ((((unhide K).setNew (p := ⟨w.heap.size + 2, 0, none⟩) (by simp) (.bool s2)).setNew (p := ⟨w.heap.size + 2, 1, none⟩) (by simp) (.slice a2 l2.length d2)).setNew (p := ⟨w.heap.size + 2, 2, none⟩) (by simp) (.int .i64 e2))
    clear r1 r2 K
    go_wp2_with fail
    exact bodyPost_ret (v := .agg #[.bool s2, .slice a2 l2.length d2, .int .i64 e2]) (by simp [results, Tryz.results155, go_sem, R0, R1, R2]) rfl ⟨_, by rw [(unhide F).1, (unhide F).2.2], by rw [(unhide F).2.1]; exact unhide RR, unhide K7⟩

theorem in_l7more : ∀ (w : World) (args : Array Value), (callFunc 155 args).run Tryz.prog w = .ok (.enter 155 args) w := enters Tryz.func155 (by decide) (fun h => by cases h)

theorem in_l8abs : ∀ (w : World) (args : Array Value), (callFunc 190 args).run Tryz.prog w = .ok (.enter 190 args) w := enters Tryz.func190 (by decide) (fun h => by cases h)

set_option maxHeartbeats 2000000 in
theorem abs8_spec {bw : Bool} {lo hi : Nat} {v : Value} {zs : List Int} (s : Bool) (x : Int) (w : World) (r : Row .i64 bw lo hi w v zs) (hn : Nrm zs) (hl : zs.length ≤ 1000000) :
    Calls Tryz.prog 190 #[.agg #[.bool s, v, .int .i64 x]] w fun e w' => ∃ v', e = .returned (.agg #[.bool false, v', .int .i64 x]) ∧ Row .i64 true w.heap.size w'.heap.size w' v' zs ∧ Kept 0 0 w w' := by
  obtain ⟨a, c, hv⟩ := Row.form' r
  subst hv
  have k0 : Kept 0 0 w ((w.alloc (.cells #[.bool s, .slice a zs.length c, .int .i64 x] 52)).alloc (.cells #[.bool false, .slice none 0 0, .int .i64 0] 52)) := ((Kept.refl 0 0 w).alloc _).alloc _
  have p1 : ((w.alloc (.cells #[.bool s, .slice a zs.length c, .int .i64 x] 52)).alloc (.cells #[.bool false, .slice none 0 0, .int .i64 0] 52)).cell? ⟨w.heap.size, 1, none⟩ = some (.slice a zs.length c) := old_cell _ (new_cell2 _ _ _ _ _ _ rfl rfl)
  have p2 : ((w.alloc (.cells #[.bool s, .slice a zs.length c, .int .i64 x] 52)).alloc (.cells #[.bool false, .slice none 0 0, .int .i64 0] 52)).cell? ⟨w.heap.size, 2, none⟩ = some (.int .i64 x) := old_cell _ (new_cell2 _ _ _ _ _ _ rfl rfl)
  have q0 : ((w.alloc (.cells #[.bool s, .slice a zs.length c, .int .i64 x] 52)).alloc (.cells #[.bool false, .slice none 0 0, .int .i64 0] 52)).cell? ⟨w.heap.size + 1, 0, none⟩ = some (.bool false) := new_cell2 _ _ _ _ _ _ (by simp) rfl
  have q1 : ((w.alloc (.cells #[.bool s, .slice a zs.length c, .int .i64 x] 52)).alloc (.cells #[.bool false, .slice none 0 0, .int .i64 0] 52)).cell? ⟨w.heap.size + 1, 1, none⟩ = some (.slice none 0 0) := new_cell2 _ _ _ _ _ _ (by simp) rfl
  have q2 : ((w.alloc (.cells #[.bool s, .slice a zs.length c, .int .i64 x] 52)).alloc (.cells #[.bool false, .slice none 0 0, .int .i64 0] 52)).cell? ⟨w.heap.size + 1, 2, none⟩ = some (.int .i64 0) := new_cell2 _ _ _ _ _ _ (by simp) rfl
  have f0 : ((w.alloc (.cells #[.bool s, .slice a zs.length c, .int .i64 x] 52)).alloc (.cells #[.bool false, .slice none 0 0, .int .i64 0] 52)).frozen? ⟨w.heap.size + 1, 0, none⟩ = false := new_loose2 _ _ _ _ _ (by simp)
  have f1 : ((w.alloc (.cells #[.bool s, .slice a zs.length c, .int .i64 x] 52)).alloc (.cells #[.bool false, .slice none 0 0, .int .i64 0] 52)).frozen? ⟨w.heap.size + 1, 1, none⟩ = false := new_loose2 _ _ _ _ _ (by simp)
  have f2 : ((w.alloc (.cells #[.bool s, .slice a zs.length c, .int .i64 x] 52)).alloc (.cells #[.bool false, .slice none 0 0, .int .i64 0] 52)).frozen? ⟨w.heap.size + 1, 2, none⟩ = false := new_loose2 _ _ _ _ _ (by simp)
  have sB : ((w.alloc (.cells #[.bool s, .slice a zs.length c, .int .i64 x] 52)).alloc (.cells #[.bool false, .slice none 0 0, .int .i64 0] 52)).heap.size = w.heap.size + 2 := by simp
  have hmk := make_spec false ((w.alloc (.cells #[.bool s, .slice a zs.length c, .int .i64 x] 52)).alloc (.cells #[.bool false, .slice none 0 0, .int .i64 0] 52)).drew (r.kept (k0.drew) (by omega)) hn.1 hl
  rw [← nrm_limbs hn] at hmk
  have HMK := hide hmk
  have SB := hide sB
  have K0 := hide k0
  clear r hmk sB k0
  go_enter Tryz.func190, Tryz.ntmps190
  go_wp2_with fail
  generalize ((w.alloc (.cells #[.bool s, .slice a zs.length c, .int .i64 x] 52)).alloc (.cells #[.bool false, .slice none 0 0, .int .i64 0] 52)) = W at *
  have kd := (Kept.refl 0 0 W).drew
  replace p1 := kd.cell0 p1
  replace p2 := kd.cell0 p2
  replace f0 := kd.loose0 (World.block_lt_of_cell? _ _ q0) f0
  replace f1 := kd.loose0 (World.block_lt_of_cell? _ _ q1) f1
  replace f2 := kd.loose0 (World.block_lt_of_cell? _ _ q2) f2
  replace q0 := kd.cell0 q0
  replace q1 := kd.cell0 q1
  replace q2 := kd.cell0 q2
  have KD := hide ((unhide K0).trans kd)
  have hdr : W.drew.heap.size = W.heap.size := rfl
  clear kd K0
  refine wp_region_held_drew (S := (fun w' => w'.cell? ⟨w.heap.size, 1, none⟩ = some (.slice a zs.length c) ∧ w'.cell? ⟨w.heap.size, 2, none⟩ = some (.int .i64 x))) (by kernel_rfl) ?_ (fun hHeld => ?_)
  · exact ⟨p1, p2⟩
  refine wpAnyH_take (i := 0) (oi := _) (v := .pointer (some ⟨w.heap.size, 0, none⟩)) rfl (by kernel_rfl) (by kernel_rfl) (by kernel_rfl) (fun _ _ _ h => h) (Or.inl ⟨by rfl, ?_⟩) hHeld ?_
  · intro wq hSw
    try dsimp only at hSw
    go_simp
  try simp only [Act.put, List.getElem_toArray, List.getElem_cons_succ, List.getElem_cons_zero, List.setIfInBounds_toArray, List.set_cons_zero, List.set_cons_succ]
  refine wpAnyH_take (i := 1) (oi := _) (v := .pointer (some ⟨w.heap.size, 1, none⟩)) rfl (by kernel_rfl) (by kernel_rfl) (by kernel_rfl) (fun _ _ _ h => h) (Or.inl ⟨by rfl, ?_⟩) hHeld ?_
  · intro wq hSw
    try dsimp only at hSw
    go_simp
  try simp only [Act.put, List.getElem_toArray, List.getElem_cons_succ, List.getElem_cons_zero, List.setIfInBounds_toArray, List.set_cons_zero, List.set_cons_succ]
  refine wpAnyH_take (i := 2) (oi := _) (v := .agg #[.slice a zs.length c]) rfl (by kernel_rfl) (by kernel_rfl) (by kernel_rfl) (fun _ _ _ h => h) (Or.inl ⟨by rfl, ?_⟩) hHeld ?_
  · intro wq hSw
    try dsimp only at hSw
    go_simp
  try simp only [Act.put, List.getElem_toArray, List.getElem_cons_succ, List.getElem_cons_zero, List.setIfInBounds_toArray, List.set_cons_zero, List.set_cons_succ]
  refine wpAnyH_take (i := 4) (oi := _) (v := .pointer (some ⟨w.heap.size, 2, none⟩)) rfl (by kernel_rfl) (by kernel_rfl) (by kernel_rfl) (fun _ _ _ h => h) (Or.inl ⟨by rfl, ?_⟩) hHeld ?_
  · intro wq hSw
    try dsimp only at hSw
    go_simp
  try simp only [Act.put, List.getElem_toArray, List.getElem_cons_succ, List.getElem_cons_zero, List.setIfInBounds_toArray, List.set_cons_zero, List.set_cons_succ]
  refine wpAnyH_take (i := 5) (oi := _) (v := .int .i64 x) rfl (by kernel_rfl) (by kernel_rfl) (by kernel_rfl) (fun _ _ _ h => h) (Or.inl ⟨by rfl, ?_⟩) hHeld ?_
  · intro wq hSw
    try dsimp only at hSw
    go_simp
  try simp only [Act.put, List.getElem_toArray, List.getElem_cons_succ, List.getElem_cons_zero, List.setIfInBounds_toArray, List.set_cons_zero, List.set_cons_succ]
  refine wpAnyH_ready (rs := [3]) (by kernel_rfl) (by simp) ?_
  refine AllReadyH.cons rfl (fun KK hK => ?_) AllReadyH.nil
  simp only [List.getElem_toArray, List.getElem_cons_succ, List.getElem_cons_zero]
  rw [if_pos (by rfl)]
  refine wps2 152 (.const (.bool false)) (.tmp 5) _ rfl in_l3make (.bool false) (.agg #[.slice a zs.length c]) rfl rfl (unhide HMK) ?_
  rintro e w4 ⟨v4, rfl, r4, k4⟩
  refine ⟨_, rfl, ?_⟩
  obtain ⟨ar, cr, hv4⟩ := Row.form' r4
  subst hv4
  replace f0 := k4.loose0 (World.block_lt_of_cell? _ _ q0) f0
  replace f1 := k4.loose0 (World.block_lt_of_cell? _ _ q1) f1
  replace f2 := k4.loose0 (World.block_lt_of_cell? _ _ q2) f2
  replace p1 := k4.cell0 p1
  replace p2 := k4.cell0 p2
  replace q0 := k4.cell0 q0
  replace q1 := k4.cell0 q1
  replace q2 := k4.cell0 q2
  have K4 := hide ((unhide KD).trans k4)
  have R4 := hide r4
  have z4 := k4.size
  clear HMK r4 k4 KD
  clear hHeld
  refine hK.out _ _ ?_ (fun hHeld => ?_)
  · exact ⟨p1, p2⟩
  clear hK KK
  try simp only [Act.put, List.getElem_toArray, List.getElem_cons_succ, List.getElem_cons_zero, List.setIfInBounds_toArray, List.set_cons_zero, List.set_cons_succ]
  refine wpAnyH_take (i := 6) (oi := _) (v := .agg #[.bool false, .slice ar zs.length cr, .int .i64 x]) rfl (by kernel_rfl) (by kernel_rfl) (by kernel_rfl) (fun _ _ _ h => h) (Or.inl ⟨by rfl, ?_⟩) hHeld ?_
  · intro wq hSw
    try dsimp only at hSw
    go_simp
  try simp only [Act.put, List.getElem_toArray, List.getElem_cons_succ, List.getElem_cons_zero, List.setIfInBounds_toArray, List.set_cons_zero, List.set_cons_succ]
  refine wpAnyH_ready (rs := [7]) (by kernel_rfl) (by simp) ?_
  refine AllReadyH.cons rfl (fun KK hK => ?_) AllReadyH.nil
  simp only [List.getElem_toArray, List.getElem_cons_succ, List.getElem_cons_zero]
  rw [if_pos (by rfl)]
  go_simp
  clear hHeld
  refine hK.out _ _ ?_ (fun hHeld => ?_)
  · exact ⟨(cell_aside _ (by dsimp only; omega) (cell_aside _ (by dsimp only; omega) (cell_aside _ (by dsimp only; omega) p1))), (cell_aside _ (by dsimp only; omega) (cell_aside _ (by dsimp only; omega) (cell_aside _ (by dsimp only; omega) p2)))⟩
  clear hK KK
  try simp only [Act.put, List.getElem_toArray, List.getElem_cons_succ, List.getElem_cons_zero, List.setIfInBounds_toArray, List.set_cons_zero, List.set_cons_succ]
  refine wpAnyH_done (by kernel_rfl) ?_ _
  clear hHeld
  have sB := unhide SB
  have G0 := cell_off _ _ _ 2 (.int .i64 x) _ (cell_off _ _ _ 1 (.slice ar zs.length cr) _ (cell_on _ _ _ (.bool false) _ q0) (show (0 : Nat) ≠ 1 by omega)) (show (0 : Nat) ≠ 2 by omega)
  have G1 := cell_off _ _ _ 2 (.int .i64 x) _ (cell_on _ _ _ (.slice ar zs.length cr) _ (cell_off _ _ _ 0 (.bool false) _ q1 (show (1 : Nat) ≠ 0 by omega))) (show (1 : Nat) ≠ 2 by omega)
  have G2 := cell_on _ _ _ (.int .i64 x) _ (cell_off _ _ _ 1 (.slice ar zs.length cr) _ (cell_off _ _ _ 0 (.bool false) _ q2 (show (2 : Nat) ≠ 0 by omega)) (show (2 : Nat) ≠ 1 by omega))
  have R7 := hide (((((unhide R4).set_other (p := ⟨w.heap.size + 1, 0, none⟩) (.inl (by dsimp only; omega)) (.bool false)).set_other (p := ⟨w.heap.size + 1, 1, none⟩) (.inl (by dsimp only; omega)) (.slice ar zs.length cr)).set_other (p := ⟨w.heap.size + 1, 2, none⟩) (.inl (by dsimp only; omega)) (.int .i64 x)).tight.wider (lo' := w.heap.size) (by omega) (Nat.le_refl _))
  have K7 := hide ((((unhide K4).setNew (p := ⟨w.heap.size + 1, 0, none⟩) (by simp) (.bool false)).setNew (p := ⟨w.heap.size + 1, 1, none⟩) (by simp) (.slice ar zs.length cr)).setNew (p := ⟨w.heap.size + 1, 2, none⟩) (by simp) (.int .i64 x))
  clear R4 K4 f0 f1 f2 p1 p2 q0 q1 q2 sB SB hdr z4
  go_wp2
  exact bodyPost_ret (v := .agg #[.bool false, .slice ar zs.length cr, .int .i64 x]) (by simp [results, Tryz.results190, go_sem, G0, G1, G2]) rfl ⟨_, rfl, unhide R7, unhide K7⟩

theorem BoxT.keptW {lo X l h : Nat} {w w' : World} {V : Int} (b : BoxT lo w X V) (k : Kept l h w w') (hX : X < l ∨ h ≤ X) (hl : w.heap.size ≤ l ∨ h ≤ lo ∨ h ≤ l) : BoxT lo w' X V := by
  obtain ⟨a, c, x0, x1, x2, r⟩ := b
  exact ⟨a, c, k.cellOut (a := ⟨X, 0, none⟩) hX x0, k.cellOut (a := ⟨X, 1, none⟩) hX x1, k.cellOut (a := ⟨X, 2, none⟩) hX x2, (r.kept k hl).wider (Nat.le_refl _) k.size⟩
theorem Kept.wideW {lo hi X Y : Nat} {a b c : World} (k : Kept lo hi a b) (m : Kept X Y b c) (h : a.heap.size ≤ X) : Kept lo hi a c :=
  ⟨m.os.trans k.os, m.tape.trans k.tape, m.output.trans k.output, Nat.le_trans k.size m.size, fun i hi' ho => (m.block i (Nat.lt_of_lt_of_le hi' k.size) (.inl (by omega))).trans (k.block i hi' ho)⟩
theorem nE_wbT {V : Int} (h : V.natAbs < 2 ^ AA) : WB (nE V (-3000)).1 (nE V (-3000)).2.1 (nE V (-3000)).2.2 := nE_wb (L := -3000) h (by decide) (by decide) (by decide)

set_option maxHeartbeats 4000000 in
theorem moreV_spec {M S : Int} (hM : M.natAbs < 2 ^ AA) (hS : S.natAbs < 2 ^ AA) {l1 l2 : Nat} {a1 a2 : Option Addr} {c1 c2 : Nat} {s1 s2 sr : Bool} {z1 z2 zr : List Int} {x1 x2 xr : Int} (e1 : (s1, z1, x1) = nE M (-3000)) (e2 : (s2, z2, x2) = nE S (-3000)) (er : (sr, zr, xr) = nE (if M < S then S else M) (-3000)) (w : World) (r1 : Row .i64 true l1 w.heap.size w (.slice a1 z1.length c1) z1) (r2 : Row .i64 true l2 w.heap.size w (.slice a2 z2.length c2) z2) (g : l1 ≤ l2) :
    Calls Tryz.prog 155 #[.agg #[.bool s1, .slice a1 z1.length c1, .int .i64 x1], .agg #[.bool s2, .slice a2 z2.length c2, .int .i64 x2]] w fun e w' => ∃ v', e = .returned (.agg #[.bool sr, v', .int .i64 xr]) ∧ Row .i64 true l1 w'.heap.size w' v' zr ∧ Kept 0 0 w w' := by
  have o1 := nE_wbT hM
  have o2 := nE_wbT hS
  have i1 : IsV (-3000) M (nE M (-3000)) := nE_isV (by decide)
  have i2 : IsV (-3000) S (nE S (-3000)) := nE_isV (by decide)
  rw [← e1] at o1 i1
  rw [← e2] at o2 i2
  have hc := cmpD_pos i1 i2
  dsimp only at o1 o2 hc
  refine (more8_spec s1 x1 (by have := o1.2.2; omega) (by have := o1.2.2; omega) s2 x2 (by have := o2.2.2; omega) (by have := o2.2.2; omega) w r1 r2 (Nat.le_refl l1) g (Nat.le_refl _) (Nat.le_refl _) (Nat.le_refl _) o1 o2).mono ?_
  rw [hc]
  rintro e w' ⟨v', rfl, r, k⟩
  by_cases h : M < S
  · have hd : decide (cmpI M S < 0) = true := decide_eq_true (by unfold cmpI; rw [if_pos h]; decide)
    rw [if_pos h, ← e2] at er
    rw [hd] at r ⊢
    simp only [Prod.mk.injEq] at er
    obtain ⟨rfl, rfl, rfl⟩ := er
    exact ⟨v', rfl, r.wider (Nat.le_refl _) k.size, k⟩
  · have hd : decide (cmpI M S < 0) = false := decide_eq_false (by unfold cmpI; rw [if_neg h]; split <;> decide)
    rw [if_neg h, ← e1] at er
    rw [hd] at r ⊢
    simp only [Prod.mk.injEq] at er
    obtain ⟨rfl, rfl, rfl⟩ := er
    exact ⟨v', rfl, r.wider (Nat.le_refl _) k.size, k⟩

set_option maxHeartbeats 32000000 in
theorem norm8G_spec {k lo hi : Nat} {V : Nat → Int} {v : Value} {ds : List DE} (w : World) (hk0 : 0 < k) (hk : k ≤ 4) (hl : ds.length = k * k) (U : ∀ p, p < k * k → WB (ds.getD p de0).1 (ds.getD p de0).2.1 (ds.getD p de0).2.2 ∧ IsV (-3000) (V p) (ds.getD p de0)) (hs : ∀ j m, j < k → m ≤ k → (psum (fun i => ((V (i * k + j)).natAbs : Int)) m).natAbs < 2 ^ AA) (r : Dys lo hi w v ds) :
    Calls Tryz.prog 139 #[.agg #[.int .i64 (k : Int), v]] w fun e w' => ∃ v', e = .returned (.agg #[.bool (nE (mxV (colV k V) k) (-3000)).1, v', .int .i64 (nE (mxV (colV k V) k) (-3000)).2.2]) ∧ Row .i64 true w.heap.size w'.heap.size w' v' (nE (mxV (colV k V) k) (-3000)).2.1 ∧ Kept 0 0 w w' := by
  obtain ⟨W, hW⟩ : ∃ W, W = ((w.alloc (.cells #[.int .i64 (k : Int), v] 59)).alloc (.cells #[.bool false, .slice none 0 0, .int .i64 0] 52)).alloc (.cells #[.bool false, .slice none 0 0, .int .i64 0] 52) := ⟨_, rfl⟩
  have k0 : Kept 0 0 w W := by rw [hW]; exact (((Kept.refl 0 0 w).alloc _).alloc _).alloc _
  have c0 : W.cell? ⟨w.heap.size, 0, none⟩ = some (.int .i64 (k : Int)) := by rw [hW]; exact old_cell _ (old_cell _ (new_cell2 _ _ _ _ _ _ (by simp) rfl))
  have c1 : W.cell? ⟨w.heap.size, 1, none⟩ = some v := by rw [hW]; exact old_cell _ (old_cell _ (new_cell2 _ _ _ _ _ _ (by simp) rfl))
  have q0 : W.cell? ⟨w.heap.size + 1, 0, none⟩ = some (.bool false) := by rw [hW]; exact old_cell _ (new_cell2 _ _ _ _ _ _ (by simp) rfl)
  have q1 : W.cell? ⟨w.heap.size + 1, 1, none⟩ = some (.slice none 0 0) := by rw [hW]; exact old_cell _ (new_cell2 _ _ _ _ _ _ (by simp) rfl)
  have q2 : W.cell? ⟨w.heap.size + 1, 2, none⟩ = some (.int .i64 0) := by rw [hW]; exact old_cell _ (new_cell2 _ _ _ _ _ _ (by simp) rfl)
  have f0 : W.frozen? ⟨w.heap.size + 1, 0, none⟩ = false := by rw [hW]; exact old_loose _ (by simp) (new_loose2 _ _ _ _ _ (by simp))
  have f1 : W.frozen? ⟨w.heap.size + 1, 1, none⟩ = false := by rw [hW]; exact old_loose _ (by simp) (new_loose2 _ _ _ _ _ (by simp))
  have f2 : W.frozen? ⟨w.heap.size + 1, 2, none⟩ = false := by rw [hW]; exact old_loose _ (by simp) (new_loose2 _ _ _ _ _ (by simp))
  have x0 : W.cell? ⟨w.heap.size + 2, 0, none⟩ = some (.bool false) := by rw [hW]; exact new_cell2 _ _ _ _ _ _ (by simp) rfl
  have x1 : W.cell? ⟨w.heap.size + 2, 1, none⟩ = some (.slice none 0 0) := by rw [hW]; exact new_cell2 _ _ _ _ _ _ (by simp) rfl
  have x2 : W.cell? ⟨w.heap.size + 2, 2, none⟩ = some (.int .i64 0) := by rw [hW]; exact new_cell2 _ _ _ _ _ _ (by simp) rfl
  have xf0 : W.frozen? ⟨w.heap.size + 2, 0, none⟩ = false := by rw [hW]; exact new_loose2 _ _ _ _ _ (by simp)
  have xf1 : W.frozen? ⟨w.heap.size + 2, 1, none⟩ = false := by rw [hW]; exact new_loose2 _ _ _ _ _ (by simp)
  have xf2 : W.frozen? ⟨w.heap.size + 2, 2, none⟩ = false := by rw [hW]; exact new_loose2 _ _ _ _ _ (by simp)
  have sW : W.heap.size = w.heap.size + 3 := by rw [hW]; simp
  have h16 : k * k ≤ 4 * 4 := Nat.mul_le_mul hk hk
  obtain ⟨n, hnn⟩ : ∃ n, n = k * k := ⟨_, rfl⟩
  obtain ⟨a1, e1, rfl, -, -⟩ := r.form
  rw [← hnn] at hl h16
  rw [hl] at r c1 hW ⊢
  have R1 := hide r
  have HNN := hide hnn
  have HU := hide U
  have HL := hide hl
  have K0 := hide k0
  have HS := hide hs
  obtain ⟨CV, hCV⟩ : ∃ CV, CV = colV k V := ⟨_, rfl⟩
  have HCV := hide hCV
  have BX : Hid (BoxT (w.heap.size + 3) W (w.heap.size + 2) (mxV CV 0)) := by
    show BoxT _ _ _ 0
    unfold BoxT
    rw [nE_zero]
    exact ⟨none, 0, x0, x1, x2, Row.nil _ _ _ _ _⟩
  have XF : Hid (W.frozen? ⟨w.heap.size + 2, 0, none⟩ = false ∧ W.frozen? ⟨w.heap.size + 2, 1, none⟩ = false ∧ W.frozen? ⟨w.heap.size + 2, 2, none⟩ = false) := ⟨xf0, xf1, xf2⟩
  have SW := hide sW
  rw [← hCV]
  clear hCV hs
  clear r U hl hnn k0 x0 x1 x2 xf0 xf1 xf2 sW
  go_enter Tryz.func139, Tryz.ntmps139
  go_wp2_with fail
  rw [← hW]
  clear hW
  go_loopw [4] (fun s4 wy => ∃ t : Nat, s4 = .int .i64 t ∧ t ≤ k ∧ Hid (BoxT (w.heap.size + 3) wy (w.heap.size + 2) (mxV CV t)) ∧ Hid (Kept (w.heap.size + 2) (w.heap.size + 3) W wy ∧ wy.frozen? ⟨w.heap.size + 2, 0, none⟩ = false ∧ wy.frozen? ⟨w.heap.size + 2, 1, none⟩ = false ∧ wy.frozen? ⟨w.heap.size + 2, 2, none⟩ = false)) (fun s4 _ => k - (intOf s4).toNat)
  case atStart => exact ⟨0, rfl, Nat.zero_le _, BX, ⟨Kept.refl _ _ _, (unhide XF).1, (unhide XF).2.1, (unhide XF).2.2⟩⟩
  case round =>
    clear BX XF
    obtain ⟨j, rfl, hj, hB, hK⟩ := hrel
    have hwj : IntKind.i64.wrap ((j : Int) + 1) = ((j + 1 : Nat) : Int) := by rw [IntKind.wrap_i64]; omega
    have sW := unhide SW
    have C0 := (unhide hK).1.cellOut (a := ⟨w.heap.size, 0, none⟩) (by dsimp only; omega) c0
    obtain ⟨wp, hwp⟩ : ∃ wp, wp = wr := ⟨_, rfl⟩
    subst hwp
    by_cases hltj : j < k
    · obtain ⟨X, hX⟩ : ∃ X, X = wp.heap.size := ⟨_, rfl⟩
      have kX := (Kept.refl 0 0 wp).alloc (.cells #[.bool false, .slice none 0 0, .int .i64 0] 52)
      have x0 : (wp.alloc (.cells #[.bool false, .slice none 0 0, .int .i64 0] 52)).cell? ⟨X, 0, none⟩ = some (.bool false) := new_cell2 _ _ _ _ _ _ hX rfl
      have x1 : (wp.alloc (.cells #[.bool false, .slice none 0 0, .int .i64 0] 52)).cell? ⟨X, 1, none⟩ = some (.slice none 0 0) := new_cell2 _ _ _ _ _ _ hX rfl
      have x2 : (wp.alloc (.cells #[.bool false, .slice none 0 0, .int .i64 0] 52)).cell? ⟨X, 2, none⟩ = some (.int .i64 0) := new_cell2 _ _ _ _ _ _ hX rfl
      have xf0 : (wp.alloc (.cells #[.bool false, .slice none 0 0, .int .i64 0] 52)).frozen? ⟨X, 0, none⟩ = false := new_loose2 _ _ _ _ _ hX
      have xf1 : (wp.alloc (.cells #[.bool false, .slice none 0 0, .int .i64 0] 52)).frozen? ⟨X, 1, none⟩ = false := new_loose2 _ _ _ _ _ hX
      have xf2 : (wp.alloc (.cells #[.bool false, .slice none 0 0, .int .i64 0] 52)).frozen? ⟨X, 2, none⟩ = false := new_loose2 _ _ _ _ _ hX
      have BX : Hid (BoxT wp.heap.size (wp.alloc (.cells #[.bool false, .slice none 0 0, .int .i64 0] 52)) X (psum (fun i => ((V (i * k + j)).natAbs : Int)) 0)) := by
        show BoxT _ _ _ 0
        unfold BoxT
        rw [nE_zero]
        exact ⟨none, 0, x0, x1, x2, Row.nil _ _ _ _ _⟩
      have XF : Hid ((wp.alloc (.cells #[.bool false, .slice none 0 0, .int .i64 0] 52)).frozen? ⟨X, 0, none⟩ = false ∧ (wp.alloc (.cells #[.bool false, .slice none 0 0, .int .i64 0] 52)).frozen? ⟨X, 1, none⟩ = false ∧ (wp.alloc (.cells #[.bool false, .slice none 0 0, .int .i64 0] 52)).frozen? ⟨X, 2, none⟩ = false) := ⟨xf0, xf1, xf2⟩
      have KX := hide kX
      have HX := hide hX
      have hXl : Hid (X < (wp.alloc (.cells #[.bool false, .slice none 0 0, .int .i64 0] 52)).heap.size) := World.block_lt_of_cell? _ _ x0
      have hXg : Hid (w.heap.size + 3 ≤ X) := by show _ ≤ _; have := (unhide hK).1.size; omega
      have C0' := kX.cell0 C0
      clear x0 x1 x2 xf0 xf1 xf2 kX sW
      go_wp2_with fail
      rw [← hX]
      clear hX C0
      generalize (wp.alloc (.cells #[.bool false, .slice none 0 0, .int .i64 0] 52)) = wX at *
      go_loopw [6] (fun s6 wy => ∃ t : Nat, s6 = .int .i64 t ∧ t ≤ k ∧ Hid (BoxT wp.heap.size wy X (psum (fun i => ((V (i * k + j)).natAbs : Int)) t)) ∧ Hid (Kept X (X + 1) wX wy ∧ wy.frozen? ⟨X, 0, none⟩ = false ∧ wy.frozen? ⟨X, 1, none⟩ = false ∧ wy.frozen? ⟨X, 2, none⟩ = false)) (fun s6 _ => k - (intOf s6).toNat)
      case atStart => exact ⟨0, rfl, Nat.zero_le _, BX, ⟨Kept.refl _ _ _, (unhide XF).1, (unhide XF).2.1, (unhide XF).2.2⟩⟩
      case round =>
        clear BX XF
        obtain ⟨t, rfl, ht, hBs, hKs⟩ := hrel
        have hwt : IntKind.i64.wrap ((t : Int) + 1) = ((t + 1 : Nat) : Int) := by rw [IntKind.wrap_i64]; omega
        have sW := unhide SW
        have hXX := unhide HX
        have hXG := unhide hXg
        have C0 := (unhide hKs).1.cellOut (a := ⟨w.heap.size, 0, none⟩) (by dsimp only; omega) C0'
        by_cases hltt : t < k
        · have hp1 := place_lt hltt hltj
          obtain ⟨p1, hp1'⟩ : ∃ p, p = t * k + j := ⟨_, rfl⟩
          have hpn1 : p1 < n := by rw [unhide HNN]; omega
          have htk : t * k ≤ k * k := Nat.mul_le_mul_right k (by omega)
          have hkk : k * k = n := (unhide HNN).symm
          have hw3 : IntKind.i64.wrap ((t : Int) * (k : Int)) = (((t * k : Nat)) : Int) := by rw [IntKind.wrap_i64, ← Int.natCast_mul]; omega
          have hw4 : IntKind.i64.wrap ((((t * k : Nat)) : Int) + (j : Int)) = (p1 : Int) := by rw [IntKind.wrap_i64, hp1']; omega
          have kwp : Kept 0 0 w wp := (unhide K0).wide (unhide hK).1 (by omega)
          have kwy : Kept 0 0 w wr := (kwp.trans (unhide KX)).wide (unhide hKs).1 (by omega)
          have kd : Kept 0 0 w wr.drew := kwy.drew
          have D0 : wr.drew.cell? ⟨w.heap.size, 0, none⟩ = some (.int .i64 (k : Int)) := C0
          have A1 : wr.drew.cell? ⟨w.heap.size, 1, none⟩ = some (.slice a1 n e1) := (unhide hKs).1.cellOut (a := ⟨w.heap.size, 1, none⟩) (by dsimp only; omega) ((unhide KX).cell0 ((unhide hK).1.cellOut (a := ⟨w.heap.size, 1, none⟩) (by dsimp only; omega) c1))
          have hok1 := unhide HU p1 (by omega)
          obtain ⟨gA, off, ln, hA, -, -, hgA, b, kb, m0, m1, m2, hln, rr⟩ := (unhide R1).at (i := p1) (by rw [unhide HL]; exact hpn1)
          cases hA
          replace m0 := kd.cell0 m0
          replace m1 := kd.cell0 m1
          replace m2 := kd.cell0 m2
          replace rr := rr.kept kd (by omega)
          obtain ⟨⟨s0, z0, y0⟩, hE0⟩ : ∃ q, q = ds.getD p1 de0 := ⟨_, rfl⟩
          rw [← hE0] at m0 m2 hln rr hok1
          dsimp only at m0 m2 hln rr
          subst hln
          obtain ⟨au, cu, x0, x1, x2, rX⟩ := unhide hBs
          obtain ⟨SM, hSM⟩ : ∃ q, q = psum (fun i => ((V (i * k + j)).natAbs : Int)) t := ⟨_, rfl⟩
          have hSMl : SM.natAbs < 2 ^ AA := by rw [hSM]; exact unhide HS j t hltj (by omega)
          have hSM1 : (SM + ((V p1).natAbs : Int)) = psum (fun i => ((V (i * k + j)).natAbs : Int)) (t + 1) := by
            show _ = psum _ t + _
            rw [← hSM]
            dsimp only
            rw [← hp1']
          rw [← hSM] at x0 x1 x2 rX
          obtain ⟨⟨su, zu, yu⟩, hU⟩ : ∃ q, q = nE SM (-3000) := ⟨_, rfl⟩
          rw [← hU] at x0 x1 x2 rX
          dsimp only at x0 x1 x2 rX
          have hwbU : WB su zu yu := by
            have := nE_wbT hSMl
            rw [← hU] at this
            exact this
          have hivU : IsV (-3000) SM (su, zu, yu) := by rw [hU]; exact nE_isV (by decide)
          have hiv0 := hok1.2
          have hn0 : Nrm z0 := hiv0.2.1
          have hivM := abs_isV hiv0
          obtain ⟨-, hl0, hy00, hy01⟩ := hok1.1
          dsimp only at hl0 hy00 hy01
          have hwbM : WB false z0 y0 := ⟨⟨hn0, fun h => by cases h⟩, by omega, by omega, by omega⟩
          obtain ⟨⟨sr, zr, yr⟩, hR⟩ : ∃ q, q = nE (psum (fun i => ((V (i * k + j)).natAbs : Int)) (t + 1)) (-3000) := ⟨_, rfl⟩
          have hR' : (sr, zr, yr) = (wsg (wval su zu * 2 ^ (yu - min yu y0).toNat + wval false z0 * 2 ^ (y0 - min yu y0).toNat), dlm (wval su zu * 2 ^ (yu - min yu y0).toNat + wval false z0 * 2 ^ (y0 - min yu y0).toNat), dex (wval su zu * 2 ^ (yu - min yu y0).toNat + wval false z0 * 2 ^ (y0 - min yu y0).toNat) (min yu y0)) := by
            rw [hR, ← hSM1, ← sum_nE hivU hivM]
            rfl
          simp only [Prod.mk.injEq] at hR'
          have had := fun w' (r : Row .i64 true wp.heap.size w'.heap.size w' (.slice au zu.length cu) zu) vm lom (rm : Row .i64 true lom w'.heap.size w' vm z0) => add4_wide su false yu y0 w' r rm hwbU hwbM
          rw [← hR'.1, ← hR'.2.1, ← hR'.2.2] at had
          have hml := abs8_spec s0 y0 wr.drew rr hn0 (by omega)
          have HAD := hide had
          have HR := hide hR
          have X0 : wr.drew.cell? ⟨X, 0, none⟩ = some (.bool su) := x0
          have X1 : wr.drew.cell? ⟨X, 1, none⟩ = some (.slice au zu.length cu) := x1
          have X2 : wr.drew.cell? ⟨X, 2, none⟩ = some (.int .i64 yu) := x2
          have XF0 : wr.drew.frozen? ⟨X, 0, none⟩ = false := (unhide hKs).2.1
          have XF1 : wr.drew.frozen? ⟨X, 1, none⟩ = false := (unhide hKs).2.2.1
          have XF2 : wr.drew.frozen? ⟨X, 2, none⟩ = false := (unhide hKs).2.2.2
          have RX := hide (show Row .i64 true wp.heap.size wr.drew.heap.size wr.drew (.slice au zu.length cu) zu from rX.kept ((Kept.refl 0 0 wr).drew) (by omega))
          have KY := hide (unhide hKs).1.drew
          have hXw : X < wr.heap.size := World.block_lt_of_cell? _ _ x0
          have hwpr : wp.heap.size < wr.heap.size := by omega
          obtain ⟨tk, htk'⟩ : ∃ im : Nat, t * k = im := ⟨_, rfl⟩
          rw [htk'] at hw3 hw4
          clear hp1 hp1' htk hkk kwp kwy kd hok1 rr hE0 hSM hSMl hSM1 hU hwbU hivU hiv0 hn0 hivM hl0 hy00 hy01 hwbM hR hR' had x0 x1 x2 rX htk' hBs hKs hXX
          go_wp2_with fail
          refine wp_region_held_drew (S := (fun w' => w'.cell? ⟨w.heap.size, 0, none⟩ = some (.int .i64 (k : Int)) ∧ w'.cell? ⟨w.heap.size, 1, none⟩ = some (.slice (some ⟨gA, off, none⟩) n e1) ∧ w'.cell? ⟨gA, off + p1 * 3, none⟩ = some (.bool s0) ∧ w'.cell? ⟨gA, off + p1 * 3 + 1, none⟩ = some (.slice b z0.length kb) ∧ w'.cell? ⟨gA, off + p1 * 3 + 2, none⟩ = some (.int .i64 y0))) (by kernel_rfl) ?_ (fun hHeld => ?_)
          · exact ⟨D0, A1, m0, m1, m2⟩
          refine wpAnyH_take (i := 1) (oi := _) (v := .pointer (some ⟨w.heap.size, 1, none⟩)) rfl (by kernel_rfl) (by kernel_rfl) (by kernel_rfl) (fun _ _ _ h => h) (Or.inl ⟨by rfl, ?_⟩) hHeld ?_
          · intro wq hSw
            try dsimp only at hSw
            go_simp
          try simp only [Act.put, List.getElem_toArray, List.getElem_cons_succ, List.getElem_cons_zero, List.setIfInBounds_toArray, List.set_cons_zero, List.set_cons_succ]
          refine wpAnyH_take (i := 2) (oi := _) (v := .slice (some ⟨gA, off, none⟩) n e1) rfl (by kernel_rfl) (by kernel_rfl) (by kernel_rfl) (fun _ _ _ h => h) (Or.inl ⟨by rfl, ?_⟩) hHeld ?_
          · intro wq hSw
            try dsimp only at hSw
            go_simp
          try simp only [Act.put, List.getElem_toArray, List.getElem_cons_succ, List.getElem_cons_zero, List.setIfInBounds_toArray, List.set_cons_zero, List.set_cons_succ]
          refine wpAnyH_take (i := 3) (oi := _) (v := .int .i64 (t : Int)) rfl (by kernel_rfl) (by kernel_rfl) (by kernel_rfl) (fun _ _ _ h => h) (Or.inl ⟨by rfl, ?_⟩) hHeld ?_
          · intro wq hSw
            try dsimp only at hSw
            go_simp
          try simp only [Act.put, List.getElem_toArray, List.getElem_cons_succ, List.getElem_cons_zero, List.setIfInBounds_toArray, List.set_cons_zero, List.set_cons_succ]
          refine wpAnyH_take (i := 4) (oi := _) (v := .pointer (some ⟨w.heap.size, 0, none⟩)) rfl (by kernel_rfl) (by kernel_rfl) (by kernel_rfl) (fun _ _ _ h => h) (Or.inl ⟨by rfl, ?_⟩) hHeld ?_
          · intro wq hSw
            try dsimp only at hSw
            go_simp
          try simp only [Act.put, List.getElem_toArray, List.getElem_cons_succ, List.getElem_cons_zero, List.setIfInBounds_toArray, List.set_cons_zero, List.set_cons_succ]
          refine wpAnyH_take (i := 5) (oi := _) (v := .int .i64 (k : Int)) rfl (by kernel_rfl) (by kernel_rfl) (by kernel_rfl) (fun _ _ _ h => h) (Or.inl ⟨by rfl, ?_⟩) hHeld ?_
          · intro wq hSw
            try dsimp only at hSw
            go_simp
          try simp only [Act.put, List.getElem_toArray, List.getElem_cons_succ, List.getElem_cons_zero, List.setIfInBounds_toArray, List.set_cons_zero, List.set_cons_succ]
          refine wpAnyH_take (i := 6) (oi := _) (v := .int .i64 (tk : Int)) rfl (by kernel_rfl) (by kernel_rfl) (by kernel_rfl) (fun _ _ _ h => h) (Or.inl ⟨by rfl, ?_⟩) hHeld ?_
          · intro wq hSw
            try dsimp only at hSw
            go_simp
          try simp only [Act.put, List.getElem_toArray, List.getElem_cons_succ, List.getElem_cons_zero, List.setIfInBounds_toArray, List.set_cons_zero, List.set_cons_succ]
          refine wpAnyH_take (i := 7) (oi := _) (v := .int .i64 (j : Int)) rfl (by kernel_rfl) (by kernel_rfl) (by kernel_rfl) (fun _ _ _ h => h) (Or.inl ⟨by rfl, ?_⟩) hHeld ?_
          · intro wq hSw
            try dsimp only at hSw
            go_simp
          try simp only [Act.put, List.getElem_toArray, List.getElem_cons_succ, List.getElem_cons_zero, List.setIfInBounds_toArray, List.set_cons_zero, List.set_cons_succ]
          refine wpAnyH_take (i := 8) (oi := _) (v := .int .i64 (p1 : Int)) rfl (by kernel_rfl) (by kernel_rfl) (by kernel_rfl) (fun _ _ _ h => h) (Or.inl ⟨by rfl, ?_⟩) hHeld ?_
          · intro wq hSw
            try dsimp only at hSw
            go_simp
          try simp only [Act.put, List.getElem_toArray, List.getElem_cons_succ, List.getElem_cons_zero, List.setIfInBounds_toArray, List.set_cons_zero, List.set_cons_succ]
          refine wpAnyH_take (i := 9) (oi := _) (v := .pointer (some ⟨gA, off + p1 * 3, none⟩)) rfl (by kernel_rfl) (by kernel_rfl) (by kernel_rfl) (fun _ _ _ h => h) (Or.inl ⟨by rfl, ?_⟩) hHeld ?_
          · intro wq hSw
            try dsimp only at hSw
            go_simp
          try simp only [Act.put, List.getElem_toArray, List.getElem_cons_succ, List.getElem_cons_zero, List.setIfInBounds_toArray, List.set_cons_zero, List.set_cons_succ]
          refine wpAnyH_take (i := 10) (oi := _) (v := .agg #[.bool s0, .slice b z0.length kb, .int .i64 y0]) rfl (by kernel_rfl) (by kernel_rfl) (by kernel_rfl) (fun _ _ _ h => h) (Or.inl ⟨by rfl, ?_⟩) hHeld ?_
          · intro wq hSw
            try dsimp only at hSw
            go_simp
          try simp only [Act.put, List.getElem_toArray, List.getElem_cons_succ, List.getElem_cons_zero, List.setIfInBounds_toArray, List.set_cons_zero, List.set_cons_succ]
          refine wpAnyH_ready (rs := [0, 11]) (by kernel_rfl) (by simp) ?_
          refine AllReadyH.cons rfl (fun KK hK => ?_) (AllReadyH.cons rfl (fun KK hK => ?_) AllReadyH.nil)
          · simp only [List.getElem_toArray, List.getElem_cons_succ, List.getElem_cons_zero]
            rw [if_pos (by rfl)]
            go_simp
            clear hHeld
            refine hK.out _ _ ?_ (fun hHeld => ?_)
            · exact ⟨D0, A1, m0, m1, m2⟩
            clear hK KK
            try simp only [Act.put, List.getElem_toArray, List.getElem_cons_succ, List.getElem_cons_zero, List.setIfInBounds_toArray, List.set_cons_zero, List.set_cons_succ]
            refine wpAnyH_ready (rs := [11]) (by kernel_rfl) (by simp) ?_
            refine AllReadyH.cons rfl (fun KK hK => ?_) AllReadyH.nil
            simp only [List.getElem_toArray, List.getElem_cons_succ, List.getElem_cons_zero]
            rw [if_pos (by rfl)]
            refine wps1 190 (.tmp 29) _ rfl in_l8abs (.agg #[.bool s0, .slice b z0.length kb, .int .i64 y0]) rfl hml ?_
            rintro e w3 ⟨v3, rfl, r3, k3⟩
            refine ⟨_, rfl, ?_⟩
            obtain ⟨am, cm, hv3⟩ := Row.form' r3
            subst hv3
            replace XF0 := k3.loose0 (World.block_lt_of_cell? _ _ X0) XF0
            replace XF1 := k3.loose0 (World.block_lt_of_cell? _ _ X1) XF1
            replace XF2 := k3.loose0 (World.block_lt_of_cell? _ _ X2) XF2
            replace RX := hide (((unhide RX).kept k3 (by omega)).wider (lo' := wp.heap.size) (hi' := w3.heap.size) (Nat.le_refl _) k3.size)
            replace KY := hide ((unhide KY).trans k3.any)
            have R3 := hide r3
            have z3 : wr.heap.size ≤ w3.heap.size := k3.size
            replace D0 := k3.cell0 D0
            replace A1 := k3.cell0 A1
            replace m0 := k3.cell0 m0
            replace m1 := k3.cell0 m1
            replace m2 := k3.cell0 m2
            replace X0 := k3.cell0 X0
            replace X1 := k3.cell0 X1
            replace X2 := k3.cell0 X2
            clear hml r3 k3
            clear hHeld
            refine hK.out _ _ ?_ (fun hHeld => ?_)
            · exact ⟨D0, A1, m0, m1, m2⟩
            clear hK KK
            try simp only [Act.put, List.getElem_toArray, List.getElem_cons_succ, List.getElem_cons_zero, List.setIfInBounds_toArray, List.set_cons_zero, List.set_cons_succ]
            refine wpAnyH_ready (rs := [12]) (by kernel_rfl) (by simp) ?_
            refine AllReadyH.cons rfl (fun KK hK => ?_) AllReadyH.nil
            simp only [List.getElem_toArray, List.getElem_cons_succ, List.getElem_cons_zero]
            rw [if_pos (by rfl)]
            have had := unhide HAD w3 (unhide RX) _ _ (unhide R3)
            refine wps2 124 (.tmp 19) (.tmp 30) _ rfl in_l4add (.agg #[.bool su, .slice au zu.length cu, .int .i64 yu]) (.agg #[.bool false, .slice am z0.length cm, .int .i64 y0]) rfl rfl had ?_
            rintro e w4 ⟨v4, rfl, r4, k4⟩
            refine ⟨_, rfl, ?_⟩
            obtain ⟨ar, cr, hv4⟩ := Row.form' r4
            subst hv4
            replace XF0 := k4.loose0 (World.block_lt_of_cell? _ _ X0) XF0
            replace XF1 := k4.loose0 (World.block_lt_of_cell? _ _ X1) XF1
            replace XF2 := k4.loose0 (World.block_lt_of_cell? _ _ X2) XF2
            replace KY := hide ((unhide KY).trans k4.any)
            have R4 := hide r4
            have z4 := k4.size
            replace D0 := k4.cell0 D0
            replace A1 := k4.cell0 A1
            replace m0 := k4.cell0 m0
            replace m1 := k4.cell0 m1
            replace m2 := k4.cell0 m2
            replace X0 := k4.cell0 X0
            replace X1 := k4.cell0 X1
            replace X2 := k4.cell0 X2
            clear had HAD r4 k4 R3 RX
            clear hHeld
            refine hK.out _ _ ?_ (fun hHeld => ?_)
            · exact ⟨D0, A1, m0, m1, m2⟩
            clear hK KK
            try simp only [Act.put, List.getElem_toArray, List.getElem_cons_succ, List.getElem_cons_zero, List.setIfInBounds_toArray, List.set_cons_zero, List.set_cons_succ]
            refine wpAnyH_ready (rs := [13]) (by kernel_rfl) (by simp) ?_
            refine AllReadyH.cons rfl (fun KK hK => ?_) AllReadyH.nil
            simp only [List.getElem_toArray, List.getElem_cons_succ, List.getElem_cons_zero]
            rw [if_pos (by rfl)]
            go_simp
            clear hHeld
            refine hK.out _ _ ?_ (fun hHeld => ?_)
            · exact ⟨(cell_aside _ (by dsimp only; omega) (cell_aside _ (by dsimp only; omega) (cell_aside _ (by dsimp only; omega) D0))), (cell_aside _ (by dsimp only; omega) (cell_aside _ (by dsimp only; omega) (cell_aside _ (by dsimp only; omega) A1))), (cell_aside _ (by dsimp only; omega) (cell_aside _ (by dsimp only; omega) (cell_aside _ (by dsimp only; omega) m0))), (cell_aside _ (by dsimp only; omega) (cell_aside _ (by dsimp only; omega) (cell_aside _ (by dsimp only; omega) m1))), (cell_aside _ (by dsimp only; omega) (cell_aside _ (by dsimp only; omega) (cell_aside _ (by dsimp only; omega) m2)))⟩
            clear hK KK
            try simp only [Act.put, List.getElem_toArray, List.getElem_cons_succ, List.getElem_cons_zero, List.setIfInBounds_toArray, List.set_cons_zero, List.set_cons_succ]
            refine wpAnyH_done (by kernel_rfl) ?_ _
            clear hHeld
            have ks : Kept X (X + 1) w4 (((w4.setCell ⟨X, 0, none⟩ (.bool sr)).setCell ⟨X, 1, none⟩ (.slice ar zr.length cr)).setCell ⟨X, 2, none⟩ (.int .i64 yr)) := (((Kept.refl _ _ _).setCell (p := ⟨X, 0, none⟩) (Nat.le_refl _) (Nat.lt_succ_self _) _).setCell (p := ⟨X, 1, none⟩) (Nat.le_refl _) (Nat.lt_succ_self _) _).setCell (p := ⟨X, 2, none⟩) (Nat.le_refl _) (Nat.lt_succ_self _) _
            have Y0 := cell_off _ _ _ 2 (.int .i64 yr) _ (cell_off _ _ _ 1 (.slice ar zr.length cr) _ (cell_on _ _ _ (.bool sr) _ X0) (show (0 : Nat) ≠ 1 by omega)) (show (0 : Nat) ≠ 2 by omega)
            have Y1 := cell_off _ _ _ 2 (.int .i64 yr) _ (cell_on _ _ _ (.slice ar zr.length cr) _ (cell_off _ _ _ 0 (.bool sr) _ X1 (show (1 : Nat) ≠ 0 by omega))) (show (1 : Nat) ≠ 2 by omega)
            have Y2 := cell_on _ _ _ (.int .i64 yr) _ (cell_off _ _ _ 1 (.slice ar zr.length cr) _ (cell_off _ _ _ 0 (.bool sr) _ X2 (show (2 : Nat) ≠ 0 by omega)) (show (2 : Nat) ≠ 1 by omega))
            have hsz : (((w4.setCell ⟨X, 0, none⟩ (.bool sr)).setCell ⟨X, 1, none⟩ (.slice ar zr.length cr)).setCell ⟨X, 2, none⟩ (.int .i64 yr)).heap.size = w4.heap.size := by rw [size_set, size_set, size_set]
            have BXX : Hid (BoxT wp.heap.size (((w4.setCell ⟨X, 0, none⟩ (.bool sr)).setCell ⟨X, 1, none⟩ (.slice ar zr.length cr)).setCell ⟨X, 2, none⟩ (.int .i64 yr)) X (psum (fun i => ((V (i * k + j)).natAbs : Int)) (t + 1))) := by
              unfold Hid BoxT
              rw [← unhide HR]
              exact ⟨ar, cr, Y0, Y1, Y2, (((unhide R4).kept ks (by omega)).wider (lo' := wp.heap.size) (hi' := (((w4.setCell ⟨X, 0, none⟩ (.bool sr)).setCell ⟨X, 1, none⟩ (.slice ar zr.length cr)).setCell ⟨X, 2, none⟩ (.int .i64 yr)).heap.size) (by omega) (by omega))⟩
            have KXX : Hid (Kept X (X + 1) wX (((w4.setCell ⟨X, 0, none⟩ (.bool sr)).setCell ⟨X, 1, none⟩ (.slice ar zr.length cr)).setCell ⟨X, 2, none⟩ (.int .i64 yr)) ∧ (((w4.setCell ⟨X, 0, none⟩ (.bool sr)).setCell ⟨X, 1, none⟩ (.slice ar zr.length cr)).setCell ⟨X, 2, none⟩ (.int .i64 yr)).frozen? ⟨X, 0, none⟩ = false ∧ (((w4.setCell ⟨X, 0, none⟩ (.bool sr)).setCell ⟨X, 1, none⟩ (.slice ar zr.length cr)).setCell ⟨X, 2, none⟩ (.int .i64 yr)).frozen? ⟨X, 1, none⟩ = false ∧ (((w4.setCell ⟨X, 0, none⟩ (.bool sr)).setCell ⟨X, 1, none⟩ (.slice ar zr.length cr)).setCell ⟨X, 2, none⟩ (.int .i64 yr)).frozen? ⟨X, 2, none⟩ = false) := ⟨(unhide KY).trans ks, by rw [frozen_set, frozen_set, frozen_set]; exact XF0, by rw [frozen_set, frozen_set, frozen_set]; exact XF1, by rw [frozen_set, frozen_set, frozen_set]; exact XF2⟩
            clear ks Y0 Y1 Y2 hsz KY R4 X0 X1 X2 XF0 XF1 XF2 A1 D0 m0 m1 m2 hw3 hw4 C0
            go_wp2
            go_roundw
            case rel => exact ⟨t + 1, by simp, hltt, BXX, KXX⟩
            case measure => simp [intOf]; omega
          · simp only [List.getElem_toArray, List.getElem_cons_succ, List.getElem_cons_zero]
            rw [if_pos (by rfl)]
            refine wps1 190 (.tmp 29) _ rfl in_l8abs (.agg #[.bool s0, .slice b z0.length kb, .int .i64 y0]) rfl hml ?_
            rintro e w3 ⟨v3, rfl, r3, k3⟩
            refine ⟨_, rfl, ?_⟩
            obtain ⟨am, cm, hv3⟩ := Row.form' r3
            subst hv3
            replace XF0 := k3.loose0 (World.block_lt_of_cell? _ _ X0) XF0
            replace XF1 := k3.loose0 (World.block_lt_of_cell? _ _ X1) XF1
            replace XF2 := k3.loose0 (World.block_lt_of_cell? _ _ X2) XF2
            replace RX := hide (((unhide RX).kept k3 (by omega)).wider (lo' := wp.heap.size) (hi' := w3.heap.size) (Nat.le_refl _) k3.size)
            replace KY := hide ((unhide KY).trans k3.any)
            have R3 := hide r3
            have z3 : wr.heap.size ≤ w3.heap.size := k3.size
            replace D0 := k3.cell0 D0
            replace A1 := k3.cell0 A1
            replace m0 := k3.cell0 m0
            replace m1 := k3.cell0 m1
            replace m2 := k3.cell0 m2
            replace X0 := k3.cell0 X0
            replace X1 := k3.cell0 X1
            replace X2 := k3.cell0 X2
            clear hml r3 k3
            clear hHeld
            refine hK.out _ _ ?_ (fun hHeld => ?_)
            · exact ⟨D0, A1, m0, m1, m2⟩
            clear hK KK
            try simp only [Act.put, List.getElem_toArray, List.getElem_cons_succ, List.getElem_cons_zero, List.setIfInBounds_toArray, List.set_cons_zero, List.set_cons_succ]
            refine wpAnyH_ready (rs := [0]) (by kernel_rfl) (by simp) ?_
            refine AllReadyH.cons rfl (fun KK hK => ?_) AllReadyH.nil
            simp only [List.getElem_toArray, List.getElem_cons_succ, List.getElem_cons_zero]
            rw [if_pos (by rfl)]
            go_simp
            clear hHeld
            refine hK.out _ _ ?_ (fun hHeld => ?_)
            · exact ⟨D0, A1, m0, m1, m2⟩
            clear hK KK
            try simp only [Act.put, List.getElem_toArray, List.getElem_cons_succ, List.getElem_cons_zero, List.setIfInBounds_toArray, List.set_cons_zero, List.set_cons_succ]
            refine wpAnyH_ready (rs := [12]) (by kernel_rfl) (by simp) ?_
            refine AllReadyH.cons rfl (fun KK hK => ?_) AllReadyH.nil
            simp only [List.getElem_toArray, List.getElem_cons_succ, List.getElem_cons_zero]
            rw [if_pos (by rfl)]
            have had := unhide HAD w3 (unhide RX) _ _ (unhide R3)
            refine wps2 124 (.tmp 19) (.tmp 30) _ rfl in_l4add (.agg #[.bool su, .slice au zu.length cu, .int .i64 yu]) (.agg #[.bool false, .slice am z0.length cm, .int .i64 y0]) rfl rfl had ?_
            rintro e w4 ⟨v4, rfl, r4, k4⟩
            refine ⟨_, rfl, ?_⟩
            obtain ⟨ar, cr, hv4⟩ := Row.form' r4
            subst hv4
            replace XF0 := k4.loose0 (World.block_lt_of_cell? _ _ X0) XF0
            replace XF1 := k4.loose0 (World.block_lt_of_cell? _ _ X1) XF1
            replace XF2 := k4.loose0 (World.block_lt_of_cell? _ _ X2) XF2
            replace KY := hide ((unhide KY).trans k4.any)
            have R4 := hide r4
            have z4 := k4.size
            replace D0 := k4.cell0 D0
            replace A1 := k4.cell0 A1
            replace m0 := k4.cell0 m0
            replace m1 := k4.cell0 m1
            replace m2 := k4.cell0 m2
            replace X0 := k4.cell0 X0
            replace X1 := k4.cell0 X1
            replace X2 := k4.cell0 X2
            clear had HAD r4 k4 R3 RX
            clear hHeld
            refine hK.out _ _ ?_ (fun hHeld => ?_)
            · exact ⟨D0, A1, m0, m1, m2⟩
            clear hK KK
            try simp only [Act.put, List.getElem_toArray, List.getElem_cons_succ, List.getElem_cons_zero, List.setIfInBounds_toArray, List.set_cons_zero, List.set_cons_succ]
            refine wpAnyH_ready (rs := [13]) (by kernel_rfl) (by simp) ?_
            refine AllReadyH.cons rfl (fun KK hK => ?_) AllReadyH.nil
            simp only [List.getElem_toArray, List.getElem_cons_succ, List.getElem_cons_zero]
            rw [if_pos (by rfl)]
            go_simp
            clear hHeld
            refine hK.out _ _ ?_ (fun hHeld => ?_)
            · exact ⟨(cell_aside _ (by dsimp only; omega) (cell_aside _ (by dsimp only; omega) (cell_aside _ (by dsimp only; omega) D0))), (cell_aside _ (by dsimp only; omega) (cell_aside _ (by dsimp only; omega) (cell_aside _ (by dsimp only; omega) A1))), (cell_aside _ (by dsimp only; omega) (cell_aside _ (by dsimp only; omega) (cell_aside _ (by dsimp only; omega) m0))), (cell_aside _ (by dsimp only; omega) (cell_aside _ (by dsimp only; omega) (cell_aside _ (by dsimp only; omega) m1))), (cell_aside _ (by dsimp only; omega) (cell_aside _ (by dsimp only; omega) (cell_aside _ (by dsimp only; omega) m2)))⟩
            clear hK KK
            try simp only [Act.put, List.getElem_toArray, List.getElem_cons_succ, List.getElem_cons_zero, List.setIfInBounds_toArray, List.set_cons_zero, List.set_cons_succ]
            refine wpAnyH_done (by kernel_rfl) ?_ _
            clear hHeld
            have ks : Kept X (X + 1) w4 (((w4.setCell ⟨X, 0, none⟩ (.bool sr)).setCell ⟨X, 1, none⟩ (.slice ar zr.length cr)).setCell ⟨X, 2, none⟩ (.int .i64 yr)) := (((Kept.refl _ _ _).setCell (p := ⟨X, 0, none⟩) (Nat.le_refl _) (Nat.lt_succ_self _) _).setCell (p := ⟨X, 1, none⟩) (Nat.le_refl _) (Nat.lt_succ_self _) _).setCell (p := ⟨X, 2, none⟩) (Nat.le_refl _) (Nat.lt_succ_self _) _
            have Y0 := cell_off _ _ _ 2 (.int .i64 yr) _ (cell_off _ _ _ 1 (.slice ar zr.length cr) _ (cell_on _ _ _ (.bool sr) _ X0) (show (0 : Nat) ≠ 1 by omega)) (show (0 : Nat) ≠ 2 by omega)
            have Y1 := cell_off _ _ _ 2 (.int .i64 yr) _ (cell_on _ _ _ (.slice ar zr.length cr) _ (cell_off _ _ _ 0 (.bool sr) _ X1 (show (1 : Nat) ≠ 0 by omega))) (show (1 : Nat) ≠ 2 by omega)
            have Y2 := cell_on _ _ _ (.int .i64 yr) _ (cell_off _ _ _ 1 (.slice ar zr.length cr) _ (cell_off _ _ _ 0 (.bool sr) _ X2 (show (2 : Nat) ≠ 0 by omega)) (show (2 : Nat) ≠ 1 by omega))
            have hsz : (((w4.setCell ⟨X, 0, none⟩ (.bool sr)).setCell ⟨X, 1, none⟩ (.slice ar zr.length cr)).setCell ⟨X, 2, none⟩ (.int .i64 yr)).heap.size = w4.heap.size := by rw [size_set, size_set, size_set]
            have BXX : Hid (BoxT wp.heap.size (((w4.setCell ⟨X, 0, none⟩ (.bool sr)).setCell ⟨X, 1, none⟩ (.slice ar zr.length cr)).setCell ⟨X, 2, none⟩ (.int .i64 yr)) X (psum (fun i => ((V (i * k + j)).natAbs : Int)) (t + 1))) := by
              unfold Hid BoxT
              rw [← unhide HR]
              exact ⟨ar, cr, Y0, Y1, Y2, (((unhide R4).kept ks (by omega)).wider (lo' := wp.heap.size) (hi' := (((w4.setCell ⟨X, 0, none⟩ (.bool sr)).setCell ⟨X, 1, none⟩ (.slice ar zr.length cr)).setCell ⟨X, 2, none⟩ (.int .i64 yr)).heap.size) (by omega) (by omega))⟩
            have KXX : Hid (Kept X (X + 1) wX (((w4.setCell ⟨X, 0, none⟩ (.bool sr)).setCell ⟨X, 1, none⟩ (.slice ar zr.length cr)).setCell ⟨X, 2, none⟩ (.int .i64 yr)) ∧ (((w4.setCell ⟨X, 0, none⟩ (.bool sr)).setCell ⟨X, 1, none⟩ (.slice ar zr.length cr)).setCell ⟨X, 2, none⟩ (.int .i64 yr)).frozen? ⟨X, 0, none⟩ = false ∧ (((w4.setCell ⟨X, 0, none⟩ (.bool sr)).setCell ⟨X, 1, none⟩ (.slice ar zr.length cr)).setCell ⟨X, 2, none⟩ (.int .i64 yr)).frozen? ⟨X, 1, none⟩ = false ∧ (((w4.setCell ⟨X, 0, none⟩ (.bool sr)).setCell ⟨X, 1, none⟩ (.slice ar zr.length cr)).setCell ⟨X, 2, none⟩ (.int .i64 yr)).frozen? ⟨X, 2, none⟩ = false) := ⟨(unhide KY).trans ks, by rw [frozen_set, frozen_set, frozen_set]; exact XF0, by rw [frozen_set, frozen_set, frozen_set]; exact XF1, by rw [frozen_set, frozen_set, frozen_set]; exact XF2⟩
            clear ks Y0 Y1 Y2 hsz KY R4 X0 X1 X2 XF0 XF1 XF2 A1 D0 m0 m1 m2 hw3 hw4 C0
            go_wp2
            go_roundw
            case rel => exact ⟨t + 1, by simp, hltt, BXX, KXX⟩
            case measure => simp [intOf]; omega
        · have htk : t = k := by omega
          subst htk
          have HCj : Hid (psum (fun i => ((V (i * t + j)).natAbs : Int)) t = CV j) := by show _ = _; rw [unhide HCV]; rfl
          obtain ⟨SM, hSM⟩ : ∃ q, q = psum (fun i => ((V (i * t + j)).natAbs : Int)) t := ⟨_, rfl⟩
          have hSMl : SM.natAbs < 2 ^ AA := by rw [hSM]; exact unhide HS j t hltj (Nat.le_refl _)
          have KC : Kept X (X + 1) wp wr := (unhide KX).any.trans (unhide hKs).1
          have hBm := (unhide hB).keptW KC (by omega) (by omega)
          obtain ⟨MM, hMM⟩ : ∃ q, q = mxV CV j := ⟨_, rfl⟩
          have hMl : MM.natAbs < 2 ^ AA := by rw [hMM]; exact mxV_lt j (fun q hq => by rw [unhide HCV]; exact unhide HS q t (by omega) (Nat.le_refl _))
          have hMX : Hid ((if MM < SM then SM else MM) = mxV CV (j + 1)) := by show _ = if mxV CV j < CV j then CV j else mxV CV j; rw [hMM, hSM, unhide HCj]
          obtain ⟨au, cu, x0, x1, x2, rX⟩ := unhide hBs
          obtain ⟨am, cm, y0, y1, y2, rM⟩ := hBm
          rw [← hSM] at x0 x1 x2 rX
          rw [← hMM] at y0 y1 y2 rM
          obtain ⟨⟨su, zu, yu⟩, hU⟩ : ∃ q, q = nE SM (-3000) := ⟨_, rfl⟩
          obtain ⟨⟨sm, zm, ym⟩, hM⟩ : ∃ q, q = nE MM (-3000) := ⟨_, rfl⟩
          obtain ⟨⟨sr, zr, yr⟩, hR⟩ : ∃ q, q = nE (if MM < SM then SM else MM) (-3000) := ⟨_, rfl⟩
          rw [← hU] at x0 x1 x2 rX
          rw [← hM] at y0 y1 y2 rM
          dsimp only at x0 x1 x2 rX y0 y1 y2 rM
          have hmo := moreV_spec hMl hSMl hM hU hR wr rM rX (by omega)
          have HR : Hid ((sr, zr, yr) = nE (mxV CV (j + 1)) (-3000)) := by show _ = _; rw [hR, unhide hMX]
          have XF : Hid (wr.frozen? ⟨w.heap.size + 2, 0, none⟩ = false ∧ wr.frozen? ⟨w.heap.size + 2, 1, none⟩ = false ∧ wr.frozen? ⟨w.heap.size + 2, 2, none⟩ = false) := ⟨KC.looseOut (a := ⟨w.heap.size + 2, 0, none⟩) (by dsimp only; omega) (by dsimp only; omega) (unhide hK).2.1, KC.looseOut (a := ⟨w.heap.size + 2, 1, none⟩) (by dsimp only; omega) (by dsimp only; omega) (unhide hK).2.2.1, KC.looseOut (a := ⟨w.heap.size + 2, 2, none⟩) (by dsimp only; omega) (by dsimp only; omega) (unhide hK).2.2.2⟩
          have KY : Hid (Kept (w.heap.size + 2) (w.heap.size + 3) W wr) := Kept.wideW (unhide hK).1 KC (by omega)
          have hsz1 : X < wr.heap.size := World.block_lt_of_cell? _ _ x0
          clear hSM hSMl hBs hKs hMM hMl hMX hU hM hR rX rM hB hK HCj KX hXl KC hXX
          go_wp2_with fail
          refine hmo.mono ?_
          rintro e w6 ⟨v6, rfl, r6, k6⟩
          obtain ⟨ar, cr, hv6⟩ := Row.form' r6
          subst hv6
          have F0 := k6.loose0 (World.block_lt_of_cell? _ _ y0) (unhide XF).1
          have F1 := k6.loose0 (World.block_lt_of_cell? _ _ y1) (unhide XF).2.1
          have F2 := k6.loose0 (World.block_lt_of_cell? _ _ y2) (unhide XF).2.2
          replace y0 := k6.cell0 y0
          replace y1 := k6.cell0 y1
          replace y2 := k6.cell0 y2
          have ks : Kept (w.heap.size + 2) (w.heap.size + 3) w6 (((w6.setCell ⟨w.heap.size + 2, 0, none⟩ (.bool sr)).setCell ⟨w.heap.size + 2, 1, none⟩ (.slice ar zr.length cr)).setCell ⟨w.heap.size + 2, 2, none⟩ (.int .i64 yr)) := (((Kept.refl _ _ _).setCell (p := ⟨w.heap.size + 2, 0, none⟩) (Nat.le_refl _) (Nat.lt_succ_self _) _).setCell (p := ⟨w.heap.size + 2, 1, none⟩) (Nat.le_refl _) (Nat.lt_succ_self _) _).setCell (p := ⟨w.heap.size + 2, 2, none⟩) (Nat.le_refl _) (Nat.lt_succ_self _) _
          have Y0 := cell_off _ _ _ 2 (.int .i64 yr) _ (cell_off _ _ _ 1 (.slice ar zr.length cr) _ (cell_on _ _ _ (.bool sr) _ y0) (show (0 : Nat) ≠ 1 by omega)) (show (0 : Nat) ≠ 2 by omega)
          have Y1 := cell_off _ _ _ 2 (.int .i64 yr) _ (cell_on _ _ _ (.slice ar zr.length cr) _ (cell_off _ _ _ 0 (.bool sr) _ y1 (show (1 : Nat) ≠ 0 by omega))) (show (1 : Nat) ≠ 2 by omega)
          have Y2 := cell_on _ _ _ (.int .i64 yr) _ (cell_off _ _ _ 1 (.slice ar zr.length cr) _ (cell_off _ _ _ 0 (.bool sr) _ y2 (show (2 : Nat) ≠ 0 by omega)) (show (2 : Nat) ≠ 1 by omega))
          have hsz : (((w6.setCell ⟨w.heap.size + 2, 0, none⟩ (.bool sr)).setCell ⟨w.heap.size + 2, 1, none⟩ (.slice ar zr.length cr)).setCell ⟨w.heap.size + 2, 2, none⟩ (.int .i64 yr)).heap.size = w6.heap.size := by rw [size_set, size_set, size_set]
          have BXX : Hid (BoxT (w.heap.size + 3) (((w6.setCell ⟨w.heap.size + 2, 0, none⟩ (.bool sr)).setCell ⟨w.heap.size + 2, 1, none⟩ (.slice ar zr.length cr)).setCell ⟨w.heap.size + 2, 2, none⟩ (.int .i64 yr)) (w.heap.size + 2) (mxV CV (j + 1))) := by
            unfold Hid BoxT
            rw [← unhide HR]
            exact ⟨ar, cr, Y0, Y1, Y2, ((r6.kept ks (by omega)).wider (lo' := w.heap.size + 3) (hi' := (((w6.setCell ⟨w.heap.size + 2, 0, none⟩ (.bool sr)).setCell ⟨w.heap.size + 2, 1, none⟩ (.slice ar zr.length cr)).setCell ⟨w.heap.size + 2, 2, none⟩ (.int .i64 yr)).heap.size) (by omega) (by omega))⟩
          have KXX : Hid (Kept (w.heap.size + 2) (w.heap.size + 3) W (((w6.setCell ⟨w.heap.size + 2, 0, none⟩ (.bool sr)).setCell ⟨w.heap.size + 2, 1, none⟩ (.slice ar zr.length cr)).setCell ⟨w.heap.size + 2, 2, none⟩ (.int .i64 yr)) ∧ (((w6.setCell ⟨w.heap.size + 2, 0, none⟩ (.bool sr)).setCell ⟨w.heap.size + 2, 1, none⟩ (.slice ar zr.length cr)).setCell ⟨w.heap.size + 2, 2, none⟩ (.int .i64 yr)).frozen? ⟨w.heap.size + 2, 0, none⟩ = false ∧ (((w6.setCell ⟨w.heap.size + 2, 0, none⟩ (.bool sr)).setCell ⟨w.heap.size + 2, 1, none⟩ (.slice ar zr.length cr)).setCell ⟨w.heap.size + 2, 2, none⟩ (.int .i64 yr)).frozen? ⟨w.heap.size + 2, 1, none⟩ = false ∧ (((w6.setCell ⟨w.heap.size + 2, 0, none⟩ (.bool sr)).setCell ⟨w.heap.size + 2, 1, none⟩ (.slice ar zr.length cr)).setCell ⟨w.heap.size + 2, 2, none⟩ (.int .i64 yr)).frozen? ⟨w.heap.size + 2, 2, none⟩ = false) := ⟨((unhide KY).trans k6.any).trans ks, by rw [frozen_set, frozen_set, frozen_set]; exact F0, by rw [frozen_set, frozen_set, frozen_set]; exact F1, by rw [frozen_set, frozen_set, frozen_set]; exact F2⟩
          clear hmo ks Y0 Y1 Y2 hsz KY k6 r6 HR XF sW C0
          go_wp2
          go_roundw
          case rel => exact ⟨j + 1, by simp, hltj, BXX, KXX⟩
          case measure => simp [intOf]; omega
    · have htk : j = k := by omega
      subst htk
      obtain ⟨au, cu, x0, x1, x2, rX⟩ := unhide hB
      obtain ⟨⟨GS, GL, GE⟩, hG⟩ : ∃ q, q = nE (mxV CV j) (-3000) := ⟨_, rfl⟩
      rw [← hG] at x0 x1 x2 rX
      dsimp only at x0 x1 x2 rX
      have HG := hide hG
      have Q0 := (unhide hK).1.cellOut (a := ⟨w.heap.size + 1, 0, none⟩) (by dsimp only; omega) q0
      have Q1 := (unhide hK).1.cellOut (a := ⟨w.heap.size + 1, 1, none⟩) (by dsimp only; omega) q1
      have Q2 := (unhide hK).1.cellOut (a := ⟨w.heap.size + 1, 2, none⟩) (by dsimp only; omega) q2
      have Qf0 := (unhide hK).1.looseOut (a := ⟨w.heap.size + 1, 0, none⟩) (by dsimp only; omega) (World.block_lt_of_cell? _ _ q0) f0
      have Qf1 := (unhide hK).1.looseOut (a := ⟨w.heap.size + 1, 1, none⟩) (by dsimp only; omega) (World.block_lt_of_cell? _ _ q1) f1
      have Qf2 := (unhide hK).1.looseOut (a := ⟨w.heap.size + 1, 2, none⟩) (by dsimp only; omega) (World.block_lt_of_cell? _ _ q2) f2
      have ks : Kept (w.heap.size + 1) (w.heap.size + 2) wp (((wp.setCell ⟨w.heap.size + 1, 0, none⟩ (.bool GS)).setCell ⟨w.heap.size + 1, 1, none⟩ (.slice au GL.length cu)).setCell ⟨w.heap.size + 1, 2, none⟩ (.int .i64 GE)) := (((Kept.refl _ _ _).setCell (p := ⟨w.heap.size + 1, 0, none⟩) (Nat.le_refl _) (Nat.lt_succ_self _) _).setCell (p := ⟨w.heap.size + 1, 1, none⟩) (Nat.le_refl _) (Nat.lt_succ_self _) _).setCell (p := ⟨w.heap.size + 1, 2, none⟩) (Nat.le_refl _) (Nat.lt_succ_self _) _
      have hsz : (((wp.setCell ⟨w.heap.size + 1, 0, none⟩ (.bool GS)).setCell ⟨w.heap.size + 1, 1, none⟩ (.slice au GL.length cu)).setCell ⟨w.heap.size + 1, 2, none⟩ (.int .i64 GE)).heap.size = wp.heap.size := by rw [size_set, size_set, size_set]
      have R7 := hide ((rX.kept ks (by omega)).wider (lo' := w.heap.size) (hi' := (((wp.setCell ⟨w.heap.size + 1, 0, none⟩ (.bool GS)).setCell ⟨w.heap.size + 1, 1, none⟩ (.slice au GL.length cu)).setCell ⟨w.heap.size + 1, 2, none⟩ (.int .i64 GE)).heap.size) (by omega) (by omega))
      have K7 := hide (((unhide K0).wide (unhide hK).1 (by omega)).wide ks (by omega))
      have G0 := cell_off _ _ _ 2 (.int .i64 GE) _ (cell_off _ _ _ 1 (.slice au GL.length cu) _ (cell_on _ _ _ (.bool GS) _ Q0) (show (0 : Nat) ≠ 1 by omega)) (show (0 : Nat) ≠ 2 by omega)
      have G1 := cell_off _ _ _ 2 (.int .i64 GE) _ (cell_on _ _ _ (.slice au GL.length cu) _ (cell_off _ _ _ 0 (.bool GS) _ Q1 (show (1 : Nat) ≠ 0 by omega))) (show (1 : Nat) ≠ 2 by omega)
      have G2 := cell_on _ _ _ (.int .i64 GE) _ (cell_off _ _ _ 1 (.slice au GL.length cu) _ (cell_off _ _ _ 0 (.bool GS) _ Q2 (show (2 : Nat) ≠ 0 by omega)) (show (2 : Nat) ≠ 1 by omega))
      clear hB hK rX ks hsz hG sW
      go_wp2
      exact bodyPost_ret (v := .agg #[.bool GS, .slice au GL.length cu, .int .i64 GE]) (by simp [results, Tryz.results139, go_sem, G0, G1, G2]) rfl ⟨_, by rw [← unhide HG], by rw [← unhide HG]; exact unhide R7, unhide K7⟩

end Go.Proofs.YthahoabkehcgbaaGreatDoor
