/-
  Dyadic numbers of the model with many limbs: l4cmp, l7less, l7more.
-/
import Derived.Test.YtpognolidbgkkaaDoorIvM
import Derived.Test.YtpognolidbgkkaaDoorIv4a
import Derived.Test.YtpognolidbgkkaaDoorDy4
import Derived.Deep.DeepCutAuto
import Derived.Deep.RegionHeld3
namespace Go.Proofs.YtpognolidbgkkaaDoor
open Go.RowKit
set_option linter.unusedVariables false
set_option maxRecDepth 8000
set_option linter.unusedSimpArgs false

set_option maxHeartbeats 2000000 in
theorem cmp4_wide {b1 b2 : Bool} {l1 h1 l2 h2 : Nat} {v1 v2 : Value} {xs ys : List Int} (s1 s2 : Bool) (x1 x2 : Int) (w : World) (r1 : Row .i64 b1 l1 h1 w v1 xs) (r2 : Row .i64 b2 l2 h2 w v2 ys) (o1 : WB s1 xs x1) (o2 : WB s2 ys x2) :
    Calls Tryd.prog 27 #[.agg #[.bool s1, v1, .int .i64 x1], .agg #[.bool s2, v2, .int .i64 x2]] w fun e w' => e = .returned (.int .i64 (cmpDI (wval s1 xs) x1 (wval s2 ys) x2)) ∧ Kept 0 0 w w' := by
  obtain ⟨Wn, hn0⟩ : ∃ wz, wz = ((w.alloc (.cells #[.bool s1, v1, .int .i64 x1] 36)).alloc (.cells #[.bool s2, v2, .int .i64 x2] 36)) := ⟨_, rfl⟩
  have k0 : Kept 0 0 w Wn := by rw [hn0]; exact (((Kept.refl 0 0 w).alloc _).alloc _)
  have p0 : Wn.cell? ⟨w.heap.size, 0, none⟩ = some (.bool s1) := by rw [hn0]; exact old_cell _ (new_cell2 _ _ _ _ _ _ (by simp) rfl)
  have p1 : Wn.cell? ⟨w.heap.size, 1, none⟩ = some (v1) := by rw [hn0]; exact old_cell _ (new_cell2 _ _ _ _ _ _ (by simp) rfl)
  have p2 : Wn.cell? ⟨w.heap.size, 2, none⟩ = some (.int .i64 x1) := by rw [hn0]; exact old_cell _ (new_cell2 _ _ _ _ _ _ (by simp) rfl)
  have t0 : Wn.cell? ⟨w.heap.size + 1, 0, none⟩ = some (.bool s2) := by rw [hn0]; exact new_cell2 _ _ _ _ _ _ (by simp) rfl
  have t1 : Wn.cell? ⟨w.heap.size + 1, 1, none⟩ = some (v2) := by rw [hn0]; exact new_cell2 _ _ _ _ _ _ (by simp) rfl
  have t2 : Wn.cell? ⟨w.heap.size + 1, 2, none⟩ = some (.int .i64 x2) := by rw [hn0]; exact new_cell2 _ _ _ _ _ _ (by simp) rfl
  subst hn0
  replace r1 := r1.kept k0 (by omega)
  replace r2 := r2.kept k0 (by omega)
  have s0 : ((w.alloc (.cells #[.bool s1, v1, .int .i64 x1] 36)).alloc (.cells #[.bool s2, v2, .int .i64 x2] 36)).heap.size = w.heap.size + 2 := by simp
  obtain ⟨a1, c1, hv⟩ := r1.form'
  subst hv
  obtain ⟨a2, c2, hv⟩ := r2.form'
  subst hv
  have K := hide (k0)
  clear k0
  have S0 := hide s0
  clear s0
  go_enter Tryd.func27, Tryd.ntmps27
  go_wp2_with fail
  generalize ((w.alloc (.cells #[.bool s1, .slice a1 xs.length c1, .int .i64 x1] 36)).alloc (.cells #[.bool s2, .slice a2 ys.length c2, .int .i64 x2] 36)) = W at *
  refine (align4_wide s1 s2 x1 x2 _ r1 r2 o1 o2).mono ?_
  rintro e w1 ⟨u1, u2, sA, sB, zA, zB, E, rfl, ra, rb, ⟨m1, m2, -, -, al, f1, f2⟩, k1⟩
  revert r1 r2; refine k1.n2 ?_; intro r1 r2
  revert p0 p1 p2 t0 t1 t2; refine k1.m6 ?_; intro p0 p1 p2 t0 t1 t2
  replace K := hide ((unhide K).trans k1)
  have z2 := k1.size
  clear k1
  have EQ := hide (cmp_alg al)
  rw [← f1, ← f2] at EQ
  clear al f1 f2
  obtain ⟨a5, c5, hv⟩ := Row.form' ra
  subst hv
  obtain ⟨a6, c6, hv⟩ := Row.form' rb
  subst hv
  have kn := (Kept.refl 0 0 w1).alloc (.cells #[.bool sA, .slice a5 zA.length c5] 34)
  have d0 : (w1.alloc (.cells #[.bool sA, .slice a5 zA.length c5] 34)).cell? ⟨w1.heap.size, 0, none⟩ = some (.bool sA) := new_cell2 _ _ _ _ _ _ (by simp) rfl
  have d1 : (w1.alloc (.cells #[.bool sA, .slice a5 zA.length c5] 34)).cell? ⟨w1.heap.size, 1, none⟩ = some (.slice a5 zA.length c5) := new_cell2 _ _ _ _ _ _ (by simp) rfl
  have sz3 : w1.heap.size + 1 ≤ (w1.alloc (.cells #[.bool sA, .slice a5 zA.length c5] 34)).heap.size := by simp
  replace r1 := r1.kp kn
  replace r2 := r2.kp kn
  replace ra := ra.kp kn
  replace rb := rb.kp kn
  revert p0 p1 p2 t0 t1 t2; refine kn.m6 ?_; intro p0 p1 p2 t0 t1 t2
  replace K := hide ((unhide K).trans kn)
  have z4 := kn.size
  clear kn
  have kn := (Kept.refl 0 0 (w1.alloc (.cells #[.bool sA, .slice a5 zA.length c5] 34))).alloc (.cells #[.bool sB, .slice a6 zB.length c6] 34)
  have e0 : ((w1.alloc (.cells #[.bool sA, .slice a5 zA.length c5] 34)).alloc (.cells #[.bool sB, .slice a6 zB.length c6] 34)).cell? ⟨w1.heap.size + 1, 0, none⟩ = some (.bool sB) := new_cell2 _ _ _ _ _ _ (by simp) rfl
  have e1 : ((w1.alloc (.cells #[.bool sA, .slice a5 zA.length c5] 34)).alloc (.cells #[.bool sB, .slice a6 zB.length c6] 34)).cell? ⟨w1.heap.size + 1, 1, none⟩ = some (.slice a6 zB.length c6) := new_cell2 _ _ _ _ _ _ (by simp) rfl
  have sz5 : (w1.alloc (.cells #[.bool sA, .slice a5 zA.length c5] 34)).heap.size + 1 ≤ ((w1.alloc (.cells #[.bool sA, .slice a5 zA.length c5] 34)).alloc (.cells #[.bool sB, .slice a6 zB.length c6] 34)).heap.size := by simp
  revert r1 r2 ra rb; refine kn.n4 ?_; intro r1 r2 ra rb
  replace p0 := kn.cell0 p0
  replace p1 := kn.cell0 p1
  replace p2 := kn.cell0 p2
  replace t0 := kn.cell0 t0
  replace t1 := kn.cell0 t1
  replace t2 := kn.cell0 t2
  replace d0 := kn.cell0 d0
  replace d1 := kn.cell0 d1
  replace K := hide ((unhide K).trans kn)
  have z6 := kn.size
  clear kn
  go_wp2_with fail
  generalize ((w1.alloc (.cells #[.bool sA, .slice a5 zA.length c5] 34)).alloc (.cells #[.bool sB, .slice a6 zB.length c6] 34)) = wn7 at *
  refine (cmp3_wn sA sB _ ra rb m1 m2).mono ?_
  rintro e w8 ⟨rfl, k8⟩
  revert r1 r2 ra rb; refine k8.n4 ?_; intro r1 r2 ra rb
  replace p0 := k8.cell0 p0
  replace p1 := k8.cell0 p1
  replace p2 := k8.cell0 p2
  replace t0 := k8.cell0 t0
  replace t1 := k8.cell0 t1
  replace t2 := k8.cell0 t2
  replace d0 := k8.cell0 d0
  replace d1 := k8.cell0 d1
  replace e0 := k8.cell0 e0
  replace e1 := k8.cell0 e1
  replace K := hide ((unhide K).trans k8)
  have z9 := k8.size
  clear k8
  clear r1 r2 ra rb m1 m2
  go_wp2_with fail
  go_ret
  exact ⟨by rw [← unhide EQ]; rfl, unhide K⟩

set_option maxHeartbeats 2000000 in
theorem less7w_spec {b1 b2 : Bool} {w1l w1h w2l w2h : Nat} {v1 v2 : Value} {l1 l2 : List Int} (s1 : Bool) (e1 : Int) (hu1 : e1 ≤ 9223372036854775807) (hd1 : -9223372036854775808 ≤ e1) (s2 : Bool) (e2 : Int) (hu2 : e2 ≤ 9223372036854775807) (hd2 : -9223372036854775808 ≤ e2) (w : World) (r1 : Row .i64 b1 w1l w1h w v1 l1) (r2 : Row .i64 b2 w2l w2h w v2 l2) {G H : Nat} (g1 : G ≤ w1l) (g2 : G ≤ w2l) (q1 : w1h ≤ H) (q2 : w2h ≤ H) (q3 : H ≤ w.heap.size) (o1 : WB s1 l1 e1) (o2 : WB s2 l2 e2) :
    Calls Tryd.prog 30 #[.agg #[.bool s1, v1, .int .i64 e1], .agg #[.bool s2, v2, .int .i64 e2]] w fun e w' => ∃ v', e = .returned (.agg #[.bool (pk (decide (0 < cmpDI (wval s1 l1) e1 (wval s2 l2) e2)) s1 s2), v', .int .i64 (pk (decide (0 < cmpDI (wval s1 l1) e1 (wval s2 l2) e2)) e1 e2)]) ∧ Row .i64 false G H w' v' (pk (decide (0 < cmpDI (wval s1 l1) e1 (wval s2 l2) e2)) l1 l2) ∧ Kept 0 0 w w' := by
  replace r1 := r1.wider (lo' := w1l) (Nat.le_refl _) q1
  replace r2 := r2.wider (lo' := w2l) (Nat.le_refl _) q2
  obtain ⟨C, hC⟩ : ∃ C, cmpDI (wval s1 l1) e1 (wval s2 l2) e2 = C := ⟨_, rfl⟩
  rw [hC]
  obtain ⟨c, hc⟩ : ∃ c, decide (0 < C) = c := ⟨_, rfl⟩
  rw [hc]
  have HC : Hid (c = decide (0 < C)) := hc.symm
  clear hc
  have mk := fun w' r1' r2' => cmp4_wide (b1 := b1) (l1 := w1l) (h1 := H) (b2 := b2) (l2 := w2l) (h2 := H) (v1 := v1) (v2 := v2) (xs := l1) (ys := l2) s1 s2 e1 e2 w' r1' r2' o1 o2
  rw [hC] at mk
  clear hC
  obtain ⟨SS, hSS⟩ : ∃ y, pk c s1 s2 = y := ⟨_, rfl⟩
  obtain ⟨PP, hPP⟩ : ∃ y, pk c l1 l2 = y := ⟨_, rfl⟩
  obtain ⟨EE, hEE⟩ : ∃ y, pk c e1 e2 = y := ⟨_, rfl⟩
  rw [hSS, hPP, hEE]
  have HSS := hide hSS
  have HPP := hide hPP
  have HEE := hide hEE
  clear hSS hPP hEE
  obtain ⟨Wn, hn0⟩ : ∃ wz, wz = (((w.alloc (.cells #[.bool s1, v1, .int .i64 e1] 36)).alloc (.cells #[.bool s2, v2, .int .i64 e2] 36)).alloc (.cells #[.bool false, .slice none 0 0, .int .i64 0] 36)) := ⟨_, rfl⟩
  have k0 : Kept 0 0 w Wn := by rw [hn0]; exact ((((Kept.refl 0 0 w).alloc _).alloc _).alloc _)
  have bp0 : Wn.cell? ⟨w.heap.size, 0, none⟩ = some (.bool s1) := by rw [hn0]; exact old_cell _ (old_cell _ (new_cell2 _ _ _ _ _ _ (by simp) rfl))
  have bp1 : Wn.cell? ⟨w.heap.size, 1, none⟩ = some (v1) := by rw [hn0]; exact old_cell _ (old_cell _ (new_cell2 _ _ _ _ _ _ (by simp) rfl))
  have bp2 : Wn.cell? ⟨w.heap.size, 2, none⟩ = some (.int .i64 e1) := by rw [hn0]; exact old_cell _ (old_cell _ (new_cell2 _ _ _ _ _ _ (by simp) rfl))
  have bq0 : Wn.cell? ⟨w.heap.size + 1, 0, none⟩ = some (.bool s2) := by rw [hn0]; exact old_cell _ (new_cell2 _ _ _ _ _ _ (by simp) rfl)
  have bq1 : Wn.cell? ⟨w.heap.size + 1, 1, none⟩ = some (v2) := by rw [hn0]; exact old_cell _ (new_cell2 _ _ _ _ _ _ (by simp) rfl)
  have bq2 : Wn.cell? ⟨w.heap.size + 1, 2, none⟩ = some (.int .i64 e2) := by rw [hn0]; exact old_cell _ (new_cell2 _ _ _ _ _ _ (by simp) rfl)
  have R0 : Wn.cell? ⟨w.heap.size + 2, 0, none⟩ = some (.bool false) := by rw [hn0]; exact new_cell2 _ _ _ _ _ _ (by simp) rfl
  have Ba : Wn.frozen? ⟨w.heap.size + 2, 0, none⟩ = false := by rw [hn0]; exact new_loose2 _ _ _ _ _ (by simp)
  have R1 : Wn.cell? ⟨w.heap.size + 2, 1, none⟩ = some (.slice none 0 0) := by rw [hn0]; exact new_cell2 _ _ _ _ _ _ (by simp) rfl
  have Bb : Wn.frozen? ⟨w.heap.size + 2, 1, none⟩ = false := by rw [hn0]; exact new_loose2 _ _ _ _ _ (by simp)
  have R2 : Wn.cell? ⟨w.heap.size + 2, 2, none⟩ = some (.int .i64 0) := by rw [hn0]; exact new_cell2 _ _ _ _ _ _ (by simp) rfl
  have Bc : Wn.frozen? ⟨w.heap.size + 2, 2, none⟩ = false := by rw [hn0]; exact new_loose2 _ _ _ _ _ (by simp)
  subst hn0
  replace r1 := r1.kept k0 (by omega)
  replace r2 := r2.kept k0 (by omega)
  have s0 : (((w.alloc (.cells #[.bool s1, v1, .int .i64 e1] 36)).alloc (.cells #[.bool s2, v2, .int .i64 e2] 36)).alloc (.cells #[.bool false, .slice none 0 0, .int .i64 0] 36)).heap.size = w.heap.size + 3 := by simp
  obtain ⟨a1, d1, hv⟩ := r1.form'
  subst hv
  obtain ⟨a2, d2, hv⟩ := r2.form'
  subst hv
  have K := hide (k0)
  clear k0
  have S0 := hide s0
  clear s0
  go_enter Tryd.func30, Tryd.ntmps30
  go_wp2_with fail
  generalize (((w.alloc (.cells #[.bool s1, .slice a1 l1.length d1, .int .i64 e1] 36)).alloc (.cells #[.bool s2, .slice a2 l2.length d2, .int .i64 e2] 36)).alloc (.cells #[.bool false, .slice none 0 0, .int .i64 0] 36)) = W at *
  refine (mk _ r1 r2).mono ?_
  rintro e w1 ⟨rfl, k1⟩
  revert r1 r2; refine k1.n2 ?_; intro r1 r2
  replace Ba := k1.loose0 (zbl R0) Ba
  replace Bb := k1.loose0 (zbl R1) Bb
  replace Bc := k1.loose0 (zbl R2) Bc
  revert bp0 bp1 bp2 bq0 bq1 bq2 R0 R1 R2; refine k1.m9 ?_; intro bp0 bp1 bp2 bq0 bq1 bq2 R0 R1 R2
  replace K := hide ((unhide K).trans k1)
  have z2 := k1.size
  clear k1
  clear mk
  by_cases hh : C ≤ 0
  ·have EC : Hid (c = false) := by show _ = _; rw [unhide HC]; exact decide_eq_false (by omega)
   have F : Hid (SS = s1 ∧ PP = l1 ∧ EE = e1) := ⟨by rw [← unhide HSS, unhide EC]; rfl, by rw [← unhide HPP, unhide EC]; rfl, by rw [← unhide HEE, unhide EC]; rfl⟩
   have RR := hide ((((r1.set_other (p := ⟨w.heap.size + 2, 0, none⟩) (.inr (by have := unhide S0; dsimp only; omega)) (.bool s1)).set_other (p := ⟨w.heap.size + 2, 1, none⟩) (.inr (by have := unhide S0; dsimp only; omega)) (.slice a1 l1.length d1)).set_other (p := ⟨w.heap.size + 2, 2, none⟩) (.inr (by have := unhide S0; dsimp only; omega)) (.int .i64 e1)).read.wider (lo' := G) g1 (Nat.le_refl _))
   have K7 := hide ((((unhide K).setNew (p := ⟨w.heap.size + 2, 0, none⟩) (by simp) (.bool s1)).setNew (p := ⟨w.heap.size + 2, 1, none⟩) (by simp) (.slice a1 l1.length d1)).setNew (p := ⟨w.heap.size + 2, 2, none⟩) (by simp) (.int .i64 e1))
   clear r1 r2 K
   go_wp2_with fail
   exact bodyPost_ret (v := .agg #[.bool s1, .slice a1 l1.length d1, .int .i64 e1]) (by simp [results, Tryd.results30, go_sem, R0, R1, R2]) rfl ⟨_, by rw [(unhide F).1, (unhide F).2.2], by rw [(unhide F).2.1]; exact unhide RR, unhide K7⟩
  ·have EC : Hid (c = true) := by show _ = _; rw [unhide HC]; exact decide_eq_true (by omega)
   have F : Hid (SS = s2 ∧ PP = l2 ∧ EE = e2) := ⟨by rw [← unhide HSS, unhide EC]; rfl, by rw [← unhide HPP, unhide EC]; rfl, by rw [← unhide HEE, unhide EC]; rfl⟩
   have RR := hide ((((r2.set_other (p := ⟨w.heap.size + 2, 0, none⟩) (.inr (by have := unhide S0; dsimp only; omega)) (.bool s2)).set_other (p := ⟨w.heap.size + 2, 1, none⟩) (.inr (by have := unhide S0; dsimp only; omega)) (.slice a2 l2.length d2)).set_other (p := ⟨w.heap.size + 2, 2, none⟩) (.inr (by have := unhide S0; dsimp only; omega)) (.int .i64 e2)).read.wider (lo' := G) g2 (Nat.le_refl _))
   have K7 := hide ((((unhide K).setNew (p := ⟨w.heap.size + 2, 0, none⟩) (by simp) (.bool s2)).setNew (p := ⟨w.heap.size + 2, 1, none⟩) (by simp) (.slice a2 l2.length d2)).setNew (p := ⟨w.heap.size + 2, 2, none⟩) (by simp) (.int .i64 e2))
   clear r1 r2 K
   go_wp2_with fail
   exact bodyPost_ret (v := .agg #[.bool s2, .slice a2 l2.length d2, .int .i64 e2]) (by simp [results, Tryd.results30, go_sem, R0, R1, R2]) rfl ⟨_, by rw [(unhide F).1, (unhide F).2.2], by rw [(unhide F).2.1]; exact unhide RR, unhide K7⟩

theorem in_l7less : ∀ (w : World) (args : Array Value), (callFunc 30 args).run Tryd.prog w = .ok (.enter 30 args) w := enters Tryd.func30 (by decide) (fun h => by cases h)

set_option maxHeartbeats 2000000 in
theorem more7w_spec {b1 b2 : Bool} {w1l w1h w2l w2h : Nat} {v1 v2 : Value} {l1 l2 : List Int} (s1 : Bool) (e1 : Int) (hu1 : e1 ≤ 9223372036854775807) (hd1 : -9223372036854775808 ≤ e1) (s2 : Bool) (e2 : Int) (hu2 : e2 ≤ 9223372036854775807) (hd2 : -9223372036854775808 ≤ e2) (w : World) (r1 : Row .i64 b1 w1l w1h w v1 l1) (r2 : Row .i64 b2 w2l w2h w v2 l2) {G H : Nat} (g1 : G ≤ w1l) (g2 : G ≤ w2l) (q1 : w1h ≤ H) (q2 : w2h ≤ H) (q3 : H ≤ w.heap.size) (o1 : WB s1 l1 e1) (o2 : WB s2 l2 e2) :
    Calls Tryd.prog 31 #[.agg #[.bool s1, v1, .int .i64 e1], .agg #[.bool s2, v2, .int .i64 e2]] w fun e w' => ∃ v', e = .returned (.agg #[.bool (pk (decide (cmpDI (wval s1 l1) e1 (wval s2 l2) e2 < 0)) s1 s2), v', .int .i64 (pk (decide (cmpDI (wval s1 l1) e1 (wval s2 l2) e2 < 0)) e1 e2)]) ∧ Row .i64 false G H w' v' (pk (decide (cmpDI (wval s1 l1) e1 (wval s2 l2) e2 < 0)) l1 l2) ∧ Kept 0 0 w w' := by
  replace r1 := r1.wider (lo' := w1l) (Nat.le_refl _) q1
  replace r2 := r2.wider (lo' := w2l) (Nat.le_refl _) q2
  obtain ⟨C, hC⟩ : ∃ C, cmpDI (wval s1 l1) e1 (wval s2 l2) e2 = C := ⟨_, rfl⟩
  rw [hC]
  obtain ⟨c, hc⟩ : ∃ c, decide (C < 0) = c := ⟨_, rfl⟩
  rw [hc]
  have HC : Hid (c = decide (C < 0)) := hc.symm
  clear hc
  have mk := fun w' r1' r2' => cmp4_wide (b1 := b1) (l1 := w1l) (h1 := H) (b2 := b2) (l2 := w2l) (h2 := H) (v1 := v1) (v2 := v2) (xs := l1) (ys := l2) s1 s2 e1 e2 w' r1' r2' o1 o2
  rw [hC] at mk
  clear hC
  obtain ⟨SS, hSS⟩ : ∃ y, pk c s1 s2 = y := ⟨_, rfl⟩
  obtain ⟨PP, hPP⟩ : ∃ y, pk c l1 l2 = y := ⟨_, rfl⟩
  obtain ⟨EE, hEE⟩ : ∃ y, pk c e1 e2 = y := ⟨_, rfl⟩
  rw [hSS, hPP, hEE]
  have HSS := hide hSS
  have HPP := hide hPP
  have HEE := hide hEE
  clear hSS hPP hEE
  obtain ⟨Wn, hn0⟩ : ∃ wz, wz = (((w.alloc (.cells #[.bool s1, v1, .int .i64 e1] 36)).alloc (.cells #[.bool s2, v2, .int .i64 e2] 36)).alloc (.cells #[.bool false, .slice none 0 0, .int .i64 0] 36)) := ⟨_, rfl⟩
  have k0 : Kept 0 0 w Wn := by rw [hn0]; exact ((((Kept.refl 0 0 w).alloc _).alloc _).alloc _)
  have bp0 : Wn.cell? ⟨w.heap.size, 0, none⟩ = some (.bool s1) := by rw [hn0]; exact old_cell _ (old_cell _ (new_cell2 _ _ _ _ _ _ (by simp) rfl))
  have bp1 : Wn.cell? ⟨w.heap.size, 1, none⟩ = some (v1) := by rw [hn0]; exact old_cell _ (old_cell _ (new_cell2 _ _ _ _ _ _ (by simp) rfl))
  have bp2 : Wn.cell? ⟨w.heap.size, 2, none⟩ = some (.int .i64 e1) := by rw [hn0]; exact old_cell _ (old_cell _ (new_cell2 _ _ _ _ _ _ (by simp) rfl))
  have bq0 : Wn.cell? ⟨w.heap.size + 1, 0, none⟩ = some (.bool s2) := by rw [hn0]; exact old_cell _ (new_cell2 _ _ _ _ _ _ (by simp) rfl)
  have bq1 : Wn.cell? ⟨w.heap.size + 1, 1, none⟩ = some (v2) := by rw [hn0]; exact old_cell _ (new_cell2 _ _ _ _ _ _ (by simp) rfl)
  have bq2 : Wn.cell? ⟨w.heap.size + 1, 2, none⟩ = some (.int .i64 e2) := by rw [hn0]; exact old_cell _ (new_cell2 _ _ _ _ _ _ (by simp) rfl)
  have R0 : Wn.cell? ⟨w.heap.size + 2, 0, none⟩ = some (.bool false) := by rw [hn0]; exact new_cell2 _ _ _ _ _ _ (by simp) rfl
  have Ba : Wn.frozen? ⟨w.heap.size + 2, 0, none⟩ = false := by rw [hn0]; exact new_loose2 _ _ _ _ _ (by simp)
  have R1 : Wn.cell? ⟨w.heap.size + 2, 1, none⟩ = some (.slice none 0 0) := by rw [hn0]; exact new_cell2 _ _ _ _ _ _ (by simp) rfl
  have Bb : Wn.frozen? ⟨w.heap.size + 2, 1, none⟩ = false := by rw [hn0]; exact new_loose2 _ _ _ _ _ (by simp)
  have R2 : Wn.cell? ⟨w.heap.size + 2, 2, none⟩ = some (.int .i64 0) := by rw [hn0]; exact new_cell2 _ _ _ _ _ _ (by simp) rfl
  have Bc : Wn.frozen? ⟨w.heap.size + 2, 2, none⟩ = false := by rw [hn0]; exact new_loose2 _ _ _ _ _ (by simp)
  subst hn0
  replace r1 := r1.kept k0 (by omega)
  replace r2 := r2.kept k0 (by omega)
  have s0 : (((w.alloc (.cells #[.bool s1, v1, .int .i64 e1] 36)).alloc (.cells #[.bool s2, v2, .int .i64 e2] 36)).alloc (.cells #[.bool false, .slice none 0 0, .int .i64 0] 36)).heap.size = w.heap.size + 3 := by simp
  obtain ⟨a1, d1, hv⟩ := r1.form'
  subst hv
  obtain ⟨a2, d2, hv⟩ := r2.form'
  subst hv
  have K := hide (k0)
  clear k0
  have S0 := hide s0
  clear s0
  go_enter Tryd.func31, Tryd.ntmps31
  go_wp2_with fail
  generalize (((w.alloc (.cells #[.bool s1, .slice a1 l1.length d1, .int .i64 e1] 36)).alloc (.cells #[.bool s2, .slice a2 l2.length d2, .int .i64 e2] 36)).alloc (.cells #[.bool false, .slice none 0 0, .int .i64 0] 36)) = W at *
  refine (mk _ r1 r2).mono ?_
  rintro e w1 ⟨rfl, k1⟩
  revert r1 r2; refine k1.n2 ?_; intro r1 r2
  replace Ba := k1.loose0 (zbl R0) Ba
  replace Bb := k1.loose0 (zbl R1) Bb
  replace Bc := k1.loose0 (zbl R2) Bc
  revert bp0 bp1 bp2 bq0 bq1 bq2 R0 R1 R2; refine k1.m9 ?_; intro bp0 bp1 bp2 bq0 bq1 bq2 R0 R1 R2
  replace K := hide ((unhide K).trans k1)
  have z2 := k1.size
  clear k1
  clear mk
  by_cases hh : 0 ≤ C
  ·have EC : Hid (c = false) := by show _ = _; rw [unhide HC]; exact decide_eq_false (by omega)
   have F : Hid (SS = s1 ∧ PP = l1 ∧ EE = e1) := ⟨by rw [← unhide HSS, unhide EC]; rfl, by rw [← unhide HPP, unhide EC]; rfl, by rw [← unhide HEE, unhide EC]; rfl⟩
   have RR := hide ((((r1.set_other (p := ⟨w.heap.size + 2, 0, none⟩) (.inr (by have := unhide S0; dsimp only; omega)) (.bool s1)).set_other (p := ⟨w.heap.size + 2, 1, none⟩) (.inr (by have := unhide S0; dsimp only; omega)) (.slice a1 l1.length d1)).set_other (p := ⟨w.heap.size + 2, 2, none⟩) (.inr (by have := unhide S0; dsimp only; omega)) (.int .i64 e1)).read.wider (lo' := G) g1 (Nat.le_refl _))
   have K7 := hide ((((unhide K).setNew (p := ⟨w.heap.size + 2, 0, none⟩) (by simp) (.bool s1)).setNew (p := ⟨w.heap.size + 2, 1, none⟩) (by simp) (.slice a1 l1.length d1)).setNew (p := ⟨w.heap.size + 2, 2, none⟩) (by simp) (.int .i64 e1))
   clear r1 r2 K
   go_wp2_with fail
   exact bodyPost_ret (v := .agg #[.bool s1, .slice a1 l1.length d1, .int .i64 e1]) (by simp [results, Tryd.results31, go_sem, R0, R1, R2]) rfl ⟨_, by rw [(unhide F).1, (unhide F).2.2], by rw [(unhide F).2.1]; exact unhide RR, unhide K7⟩
  ·have EC : Hid (c = true) := by show _ = _; rw [unhide HC]; exact decide_eq_true (by omega)
   have F : Hid (SS = s2 ∧ PP = l2 ∧ EE = e2) := ⟨by rw [← unhide HSS, unhide EC]; rfl, by rw [← unhide HPP, unhide EC]; rfl, by rw [← unhide HEE, unhide EC]; rfl⟩
   have RR := hide ((((r2.set_other (p := ⟨w.heap.size + 2, 0, none⟩) (.inr (by have := unhide S0; dsimp only; omega)) (.bool s2)).set_other (p := ⟨w.heap.size + 2, 1, none⟩) (.inr (by have := unhide S0; dsimp only; omega)) (.slice a2 l2.length d2)).set_other (p := ⟨w.heap.size + 2, 2, none⟩) (.inr (by have := unhide S0; dsimp only; omega)) (.int .i64 e2)).read.wider (lo' := G) g2 (Nat.le_refl _))
   have K7 := hide ((((unhide K).setNew (p := ⟨w.heap.size + 2, 0, none⟩) (by simp) (.bool s2)).setNew (p := ⟨w.heap.size + 2, 1, none⟩) (by simp) (.slice a2 l2.length d2)).setNew (p := ⟨w.heap.size + 2, 2, none⟩) (by simp) (.int .i64 e2))
   clear r1 r2 K
   go_wp2_with fail
   exact bodyPost_ret (v := .agg #[.bool s2, .slice a2 l2.length d2, .int .i64 e2]) (by simp [results, Tryd.results31, go_sem, R0, R1, R2]) rfl ⟨_, by rw [(unhide F).1, (unhide F).2.2], by rw [(unhide F).2.1]; exact unhide RR, unhide K7⟩

theorem in_l7more : ∀ (w : World) (args : Array Value), (callFunc 31 args).run Tryd.prog w = .ok (.enter 31 args) w := enters Tryd.func31 (by decide) (fun h => by cases h)

end Go.Proofs.YtpognolidbgkkaaDoor

