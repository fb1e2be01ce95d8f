/-
  Intervals of the model: l7less, l7more, IvMeet, IvJoin.
-/
import Derived.Test.YtkaidnomjceddaaDoorIvM
import Derived.Test.YtkaidnomjceddaaDoorIv4a
import Derived.Deep.DeepCutAuto
import Derived.Deep.RegionHeld3
namespace Go.Proofs.YtkaidnomjceddaaDoor
open Go.RowKit
set_option linter.unusedVariables false
set_option maxRecDepth 8000
set_option linter.unusedSimpArgs false

set_option maxHeartbeats 2000000 in
theorem less7_spec {b1 b2 : Bool} {w1l w1h w2l w2h : Nat} {v1 v2 : Value} {l1 l2 : List Int} (s1 : Bool) (e1 : Int) (hu1 : e1 ≤ 9223372036854775807) (hd1 : -9223372036854775808 ≤ e1) (s2 : Bool) (e2 : Int) (hu2 : e2 ≤ 9223372036854775807) (hd2 : -9223372036854775808 ≤ e2) (w : World) (r1 : Row .i64 b1 w1l w1h w v1 l1) (r2 : Row .i64 b2 w2l w2h w v2 l2) {H : Nat} (q1 : w1h ≤ H) (q2 : w2h ≤ H) (q3 : H ≤ w.heap.size) (o1 : dokB s1 l1 e1 = true) (o2 : dokB s2 l2 e2 = true) :
    Calls Tryd.prog 17 #[.agg #[.bool s1, v1, .int .i64 e1], .agg #[.bool s2, v2, .int .i64 e2]] w fun e w' => ∃ v', e = .returned (.agg #[.bool (pk (mnB s1 l1 e1 s2 l2 e2) s1 s2), v', .int .i64 (pk (mnB s1 l1 e1 s2 l2 e2) e1 e2)]) ∧ Row .i64 false 0 H w' v' (pk (mnB s1 l1 e1 s2 l2 e2) l1 l2) ∧ Kept 0 0 w w' := by
  replace r1 := r1.wider (lo' := w1l) (Nat.le_refl _) q1
  replace r2 := r2.wider (lo' := w2l) (Nat.le_refl _) q2
  obtain ⟨c, hc⟩ : ∃ c, mnB s1 l1 e1 s2 l2 e2 = c := ⟨_, rfl⟩
  rw [hc]
  obtain ⟨C, hC⟩ : ∃ C, cmpD s1 l1 e1 s2 l2 e2 = C := ⟨_, rfl⟩
  have HC : Hid (c = decide (0 < C)) := by show _ = _; rw [← hc]; unfold mnB; rw [hC]
  clear hc
  have mk := fun w' r1' r2' => cmp4_ok (b1 := b1) (w1l := w1l) (w1h := H) (b2 := b2) (w2l := w2l) (w2h := H) (v1 := v1) (v2 := v2) (l1 := l1) (l2 := l2) s1 e1 hu1 hd1 s2 e2 hu2 hd2 w' r1' r2' o1 o2
  rw [hC] at mk
  clear hC
  obtain ⟨SS, hSS⟩ : ∃ y, pk c s1 s2 = y := ⟨_, rfl⟩
  obtain ⟨PP, hPP⟩ : ∃ y, pk c l1 l2 = y := ⟨_, rfl⟩
  obtain ⟨EE, hEE⟩ : ∃ y, pk c e1 e2 = y := ⟨_, rfl⟩
  rw [hSS, hPP, hEE]
  have HSS := hide hSS
  have HPP := hide hPP
  have HEE := hide hEE
  clear hSS hPP hEE
  obtain ⟨Wn, hn0⟩ : ∃ wz, wz = (((w.alloc (.cells #[.bool s1, v1, .int .i64 e1] 36)).alloc (.cells #[.bool s2, v2, .int .i64 e2] 36)).alloc (.cells #[.bool false, .slice none 0 0, .int .i64 0] 36)) := ⟨_, rfl⟩
  have k0 : Kept 0 0 w Wn := by rw [hn0]; exact ((((Kept.refl 0 0 w).alloc _).alloc _).alloc _)
  have bp0 : Wn.cell? ⟨w.heap.size, 0, none⟩ = some (.bool s1) := by rw [hn0]; exact old_cell _ (old_cell _ (new_cell2 _ _ _ _ _ _ (by simp) rfl))
  have bp1 : Wn.cell? ⟨w.heap.size, 1, none⟩ = some (v1) := by rw [hn0]; exact old_cell _ (old_cell _ (new_cell2 _ _ _ _ _ _ (by simp) rfl))
  have bp2 : Wn.cell? ⟨w.heap.size, 2, none⟩ = some (.int .i64 e1) := by rw [hn0]; exact old_cell _ (old_cell _ (new_cell2 _ _ _ _ _ _ (by simp) rfl))
  have bq0 : Wn.cell? ⟨w.heap.size + 1, 0, none⟩ = some (.bool s2) := by rw [hn0]; exact old_cell _ (new_cell2 _ _ _ _ _ _ (by simp) rfl)
  have bq1 : Wn.cell? ⟨w.heap.size + 1, 1, none⟩ = some (v2) := by rw [hn0]; exact old_cell _ (new_cell2 _ _ _ _ _ _ (by simp) rfl)
  have bq2 : Wn.cell? ⟨w.heap.size + 1, 2, none⟩ = some (.int .i64 e2) := by rw [hn0]; exact old_cell _ (new_cell2 _ _ _ _ _ _ (by simp) rfl)
  have R0 : Wn.cell? ⟨w.heap.size + 2, 0, none⟩ = some (.bool false) := by rw [hn0]; exact new_cell2 _ _ _ _ _ _ (by simp) rfl
  have Rf0 : Wn.frozen? ⟨w.heap.size + 2, 0, none⟩ = false := by rw [hn0]; exact new_loose2 _ _ _ _ _ (by simp)
  have R1 : Wn.cell? ⟨w.heap.size + 2, 1, none⟩ = some (.slice none 0 0) := by rw [hn0]; exact new_cell2 _ _ _ _ _ _ (by simp) rfl
  have Rf1 : Wn.frozen? ⟨w.heap.size + 2, 1, none⟩ = false := by rw [hn0]; exact new_loose2 _ _ _ _ _ (by simp)
  have R2 : Wn.cell? ⟨w.heap.size + 2, 2, none⟩ = some (.int .i64 0) := by rw [hn0]; exact new_cell2 _ _ _ _ _ _ (by simp) rfl
  have Rf2 : Wn.frozen? ⟨w.heap.size + 2, 2, none⟩ = false := by rw [hn0]; exact new_loose2 _ _ _ _ _ (by simp)
  subst hn0
  replace r1 := r1.kept k0 (by omega)
  replace r2 := r2.kept k0 (by omega)
  have s0 : (((w.alloc (.cells #[.bool s1, v1, .int .i64 e1] 36)).alloc (.cells #[.bool s2, v2, .int .i64 e2] 36)).alloc (.cells #[.bool false, .slice none 0 0, .int .i64 0] 36)).heap.size = w.heap.size + 3 := by simp
  obtain ⟨a1, d1, hv⟩ := Row.form' r1
  subst hv
  obtain ⟨a2, d2, hv⟩ := Row.form' r2
  subst hv
  have K := hide (k0)
  clear k0
  have S0 := hide s0
  clear s0
  go_enter Tryd.func17, Tryd.ntmps17
  go_wp2_with fail
  generalize (((w.alloc (.cells #[.bool s1, .slice a1 l1.length d1, .int .i64 e1] 36)).alloc (.cells #[.bool s2, .slice a2 l2.length d2, .int .i64 e2] 36)).alloc (.cells #[.bool false, .slice none 0 0, .int .i64 0] 36)) = W at *
  refine (mk _ r1 r2).mono ?_
  rintro e w1 ⟨rfl, k1⟩
  replace r1 := r1.kp k1
  replace r2 := r2.kp k1
  replace Rf0 := k1.loose0 (zbl R0) Rf0
  replace Rf1 := k1.loose0 (zbl R1) Rf1
  replace Rf2 := k1.loose0 (zbl R2) Rf2
  replace bp0 := k1.cell0 bp0
  replace bp1 := k1.cell0 bp1
  replace bp2 := k1.cell0 bp2
  replace bq0 := k1.cell0 bq0
  replace bq1 := k1.cell0 bq1
  replace bq2 := k1.cell0 bq2
  replace R0 := k1.cell0 R0
  replace R1 := k1.cell0 R1
  replace R2 := k1.cell0 R2
  replace K := hide ((unhide K).trans k1)
  have z2 := k1.size
  clear k1
  clear mk
  by_cases hh : C ≤ 0
  ·have EC : Hid (c = false) := by show _ = _; rw [unhide HC]; exact decide_eq_false (by omega)
   have F : Hid (SS = s1 ∧ PP = l1 ∧ EE = e1) := ⟨by rw [← unhide HSS, unhide EC]; rfl, by rw [← unhide HPP, unhide EC]; rfl, by rw [← unhide HEE, unhide EC]; rfl⟩
   have RR := hide ((((r1.set_other (p := ⟨w.heap.size + 2, 0, none⟩) (.inr (by have := unhide S0; dsimp only; omega)) (.bool s1)).set_other (p := ⟨w.heap.size + 2, 1, none⟩) (.inr (by have := unhide S0; dsimp only; omega)) (.slice a1 l1.length d1)).set_other (p := ⟨w.heap.size + 2, 2, none⟩) (.inr (by have := unhide S0; dsimp only; omega)) (.int .i64 e1)).read.wider (lo' := 0) (Nat.zero_le _) (Nat.le_refl _))
   have K7 := hide ((((unhide K).setNew (p := ⟨w.heap.size + 2, 0, none⟩) (by simp) (.bool s1)).setNew (p := ⟨w.heap.size + 2, 1, none⟩) (by simp) (.slice a1 l1.length d1)).setNew (p := ⟨w.heap.size + 2, 2, none⟩) (by simp) (.int .i64 e1))
   clear r1 r2 K
   go_wp2_with fail
   exact bodyPost_ret (v := .agg #[.bool s1, .slice a1 l1.length d1, .int .i64 e1]) (by simp [results, Tryd.results17, go_sem, R0, R1, R2]) rfl ⟨_, by rw [(unhide F).1, (unhide F).2.2], by rw [(unhide F).2.1]; exact unhide RR, unhide K7⟩
  ·have EC : Hid (c = true) := by show _ = _; rw [unhide HC]; exact decide_eq_true (by omega)
   have F : Hid (SS = s2 ∧ PP = l2 ∧ EE = e2) := ⟨by rw [← unhide HSS, unhide EC]; rfl, by rw [← unhide HPP, unhide EC]; rfl, by rw [← unhide HEE, unhide EC]; rfl⟩
   have RR := hide ((((r2.set_other (p := ⟨w.heap.size + 2, 0, none⟩) (.inr (by have := unhide S0; dsimp only; omega)) (.bool s2)).set_other (p := ⟨w.heap.size + 2, 1, none⟩) (.inr (by have := unhide S0; dsimp only; omega)) (.slice a2 l2.length d2)).set_other (p := ⟨w.heap.size + 2, 2, none⟩) (.inr (by have := unhide S0; dsimp only; omega)) (.int .i64 e2)).read.wider (lo' := 0) (Nat.zero_le _) (Nat.le_refl _))
   have K7 := hide ((((unhide K).setNew (p := ⟨w.heap.size + 2, 0, none⟩) (by simp) (.bool s2)).setNew (p := ⟨w.heap.size + 2, 1, none⟩) (by simp) (.slice a2 l2.length d2)).setNew (p := ⟨w.heap.size + 2, 2, none⟩) (by simp) (.int .i64 e2))
   clear r1 r2 K
   go_wp2_with fail
   exact bodyPost_ret (v := .agg #[.bool s2, .slice a2 l2.length d2, .int .i64 e2]) (by simp [results, Tryd.results17, go_sem, R0, R1, R2]) rfl ⟨_, by rw [(unhide F).1, (unhide F).2.2], by rw [(unhide F).2.1]; exact unhide RR, unhide K7⟩

theorem in_l7less : ∀ (w : World) (args : Array Value), (callFunc 17 args).run Tryd.prog w = .ok (.enter 17 args) w := enters Tryd.func17 (by decide) (fun h => by cases h)

set_option maxHeartbeats 2000000 in
theorem more7_spec {b1 b2 : Bool} {w1l w1h w2l w2h : Nat} {v1 v2 : Value} {l1 l2 : List Int} (s1 : Bool) (e1 : Int) (hu1 : e1 ≤ 9223372036854775807) (hd1 : -9223372036854775808 ≤ e1) (s2 : Bool) (e2 : Int) (hu2 : e2 ≤ 9223372036854775807) (hd2 : -9223372036854775808 ≤ e2) (w : World) (r1 : Row .i64 b1 w1l w1h w v1 l1) (r2 : Row .i64 b2 w2l w2h w v2 l2) {H : Nat} (q1 : w1h ≤ H) (q2 : w2h ≤ H) (q3 : H ≤ w.heap.size) (o1 : dokB s1 l1 e1 = true) (o2 : dokB s2 l2 e2 = true) :
    Calls Tryd.prog 16 #[.agg #[.bool s1, v1, .int .i64 e1], .agg #[.bool s2, v2, .int .i64 e2]] w fun e w' => ∃ v', e = .returned (.agg #[.bool (pk (mxB s1 l1 e1 s2 l2 e2) s1 s2), v', .int .i64 (pk (mxB s1 l1 e1 s2 l2 e2) e1 e2)]) ∧ Row .i64 false 0 H w' v' (pk (mxB s1 l1 e1 s2 l2 e2) l1 l2) ∧ Kept 0 0 w w' := by
  replace r1 := r1.wider (lo' := w1l) (Nat.le_refl _) q1
  replace r2 := r2.wider (lo' := w2l) (Nat.le_refl _) q2
  obtain ⟨c, hc⟩ : ∃ c, mxB s1 l1 e1 s2 l2 e2 = c := ⟨_, rfl⟩
  rw [hc]
  obtain ⟨C, hC⟩ : ∃ C, cmpD s1 l1 e1 s2 l2 e2 = C := ⟨_, rfl⟩
  have HC : Hid (c = decide (C < 0)) := by show _ = _; rw [← hc]; unfold mxB; rw [hC]
  clear hc
  have mk := fun w' r1' r2' => cmp4_ok (b1 := b1) (w1l := w1l) (w1h := H) (b2 := b2) (w2l := w2l) (w2h := H) (v1 := v1) (v2 := v2) (l1 := l1) (l2 := l2) s1 e1 hu1 hd1 s2 e2 hu2 hd2 w' r1' r2' o1 o2
  rw [hC] at mk
  clear hC
  obtain ⟨SS, hSS⟩ : ∃ y, pk c s1 s2 = y := ⟨_, rfl⟩
  obtain ⟨PP, hPP⟩ : ∃ y, pk c l1 l2 = y := ⟨_, rfl⟩
  obtain ⟨EE, hEE⟩ : ∃ y, pk c e1 e2 = y := ⟨_, rfl⟩
  rw [hSS, hPP, hEE]
  have HSS := hide hSS
  have HPP := hide hPP
  have HEE := hide hEE
  clear hSS hPP hEE
  obtain ⟨Wn, hn0⟩ : ∃ wz, wz = (((w.alloc (.cells #[.bool s1, v1, .int .i64 e1] 36)).alloc (.cells #[.bool s2, v2, .int .i64 e2] 36)).alloc (.cells #[.bool false, .slice none 0 0, .int .i64 0] 36)) := ⟨_, rfl⟩
  have k0 : Kept 0 0 w Wn := by rw [hn0]; exact ((((Kept.refl 0 0 w).alloc _).alloc _).alloc _)
  have bp0 : Wn.cell? ⟨w.heap.size, 0, none⟩ = some (.bool s1) := by rw [hn0]; exact old_cell _ (old_cell _ (new_cell2 _ _ _ _ _ _ (by simp) rfl))
  have bp1 : Wn.cell? ⟨w.heap.size, 1, none⟩ = some (v1) := by rw [hn0]; exact old_cell _ (old_cell _ (new_cell2 _ _ _ _ _ _ (by simp) rfl))
  have bp2 : Wn.cell? ⟨w.heap.size, 2, none⟩ = some (.int .i64 e1) := by rw [hn0]; exact old_cell _ (old_cell _ (new_cell2 _ _ _ _ _ _ (by simp) rfl))
  have bq0 : Wn.cell? ⟨w.heap.size + 1, 0, none⟩ = some (.bool s2) := by rw [hn0]; exact old_cell _ (new_cell2 _ _ _ _ _ _ (by simp) rfl)
  have bq1 : Wn.cell? ⟨w.heap.size + 1, 1, none⟩ = some (v2) := by rw [hn0]; exact old_cell _ (new_cell2 _ _ _ _ _ _ (by simp) rfl)
  have bq2 : Wn.cell? ⟨w.heap.size + 1, 2, none⟩ = some (.int .i64 e2) := by rw [hn0]; exact old_cell _ (new_cell2 _ _ _ _ _ _ (by simp) rfl)
  have R0 : Wn.cell? ⟨w.heap.size + 2, 0, none⟩ = some (.bool false) := by rw [hn0]; exact new_cell2 _ _ _ _ _ _ (by simp) rfl
  have Rf0 : Wn.frozen? ⟨w.heap.size + 2, 0, none⟩ = false := by rw [hn0]; exact new_loose2 _ _ _ _ _ (by simp)
  have R1 : Wn.cell? ⟨w.heap.size + 2, 1, none⟩ = some (.slice none 0 0) := by rw [hn0]; exact new_cell2 _ _ _ _ _ _ (by simp) rfl
  have Rf1 : Wn.frozen? ⟨w.heap.size + 2, 1, none⟩ = false := by rw [hn0]; exact new_loose2 _ _ _ _ _ (by simp)
  have R2 : Wn.cell? ⟨w.heap.size + 2, 2, none⟩ = some (.int .i64 0) := by rw [hn0]; exact new_cell2 _ _ _ _ _ _ (by simp) rfl
  have Rf2 : Wn.frozen? ⟨w.heap.size + 2, 2, none⟩ = false := by rw [hn0]; exact new_loose2 _ _ _ _ _ (by simp)
  subst hn0
  replace r1 := r1.kept k0 (by omega)
  replace r2 := r2.kept k0 (by omega)
  have s0 : (((w.alloc (.cells #[.bool s1, v1, .int .i64 e1] 36)).alloc (.cells #[.bool s2, v2, .int .i64 e2] 36)).alloc (.cells #[.bool false, .slice none 0 0, .int .i64 0] 36)).heap.size = w.heap.size + 3 := by simp
  obtain ⟨a1, d1, hv⟩ := Row.form' r1
  subst hv
  obtain ⟨a2, d2, hv⟩ := Row.form' r2
  subst hv
  have K := hide (k0)
  clear k0
  have S0 := hide s0
  clear s0
  go_enter Tryd.func16, Tryd.ntmps16
  go_wp2_with fail
  generalize (((w.alloc (.cells #[.bool s1, .slice a1 l1.length d1, .int .i64 e1] 36)).alloc (.cells #[.bool s2, .slice a2 l2.length d2, .int .i64 e2] 36)).alloc (.cells #[.bool false, .slice none 0 0, .int .i64 0] 36)) = W at *
  refine (mk _ r1 r2).mono ?_
  rintro e w1 ⟨rfl, k1⟩
  replace r1 := r1.kp k1
  replace r2 := r2.kp k1
  replace Rf0 := k1.loose0 (zbl R0) Rf0
  replace Rf1 := k1.loose0 (zbl R1) Rf1
  replace Rf2 := k1.loose0 (zbl R2) Rf2
  replace bp0 := k1.cell0 bp0
  replace bp1 := k1.cell0 bp1
  replace bp2 := k1.cell0 bp2
  replace bq0 := k1.cell0 bq0
  replace bq1 := k1.cell0 bq1
  replace bq2 := k1.cell0 bq2
  replace R0 := k1.cell0 R0
  replace R1 := k1.cell0 R1
  replace R2 := k1.cell0 R2
  replace K := hide ((unhide K).trans k1)
  have z2 := k1.size
  clear k1
  clear mk
  by_cases hh : 0 ≤ C
  ·have EC : Hid (c = false) := by show _ = _; rw [unhide HC]; exact decide_eq_false (by omega)
   have F : Hid (SS = s1 ∧ PP = l1 ∧ EE = e1) := ⟨by rw [← unhide HSS, unhide EC]; rfl, by rw [← unhide HPP, unhide EC]; rfl, by rw [← unhide HEE, unhide EC]; rfl⟩
   have RR := hide ((((r1.set_other (p := ⟨w.heap.size + 2, 0, none⟩) (.inr (by have := unhide S0; dsimp only; omega)) (.bool s1)).set_other (p := ⟨w.heap.size + 2, 1, none⟩) (.inr (by have := unhide S0; dsimp only; omega)) (.slice a1 l1.length d1)).set_other (p := ⟨w.heap.size + 2, 2, none⟩) (.inr (by have := unhide S0; dsimp only; omega)) (.int .i64 e1)).read.wider (lo' := 0) (Nat.zero_le _) (Nat.le_refl _))
   have K7 := hide ((((unhide K).setNew (p := ⟨w.heap.size + 2, 0, none⟩) (by simp) (.bool s1)).setNew (p := ⟨w.heap.size + 2, 1, none⟩) (by simp) (.slice a1 l1.length d1)).setNew (p := ⟨w.heap.size + 2, 2, none⟩) (by simp) (.int .i64 e1))
   clear r1 r2 K
   go_wp2_with fail
   exact bodyPost_ret (v := .agg #[.bool s1, .slice a1 l1.length d1, .int .i64 e1]) (by simp [results, Tryd.results16, go_sem, R0, R1, R2]) rfl ⟨_, by rw [(unhide F).1, (unhide F).2.2], by rw [(unhide F).2.1]; exact unhide RR, unhide K7⟩
  ·have EC : Hid (c = true) := by show _ = _; rw [unhide HC]; exact decide_eq_true (by omega)
   have F : Hid (SS = s2 ∧ PP = l2 ∧ EE = e2) := ⟨by rw [← unhide HSS, unhide EC]; rfl, by rw [← unhide HPP, unhide EC]; rfl, by rw [← unhide HEE, unhide EC]; rfl⟩
   have RR := hide ((((r2.set_other (p := ⟨w.heap.size + 2, 0, none⟩) (.inr (by have := unhide S0; dsimp only; omega)) (.bool s2)).set_other (p := ⟨w.heap.size + 2, 1, none⟩) (.inr (by have := unhide S0; dsimp only; omega)) (.slice a2 l2.length d2)).set_other (p := ⟨w.heap.size + 2, 2, none⟩) (.inr (by have := unhide S0; dsimp only; omega)) (.int .i64 e2)).read.wider (lo' := 0) (Nat.zero_le _) (Nat.le_refl _))
   have K7 := hide ((((unhide K).setNew (p := ⟨w.heap.size + 2, 0, none⟩) (by simp) (.bool s2)).setNew (p := ⟨w.heap.size + 2, 1, none⟩) (by simp) (.slice a2 l2.length d2)).setNew (p := ⟨w.heap.size + 2, 2, none⟩) (by simp) (.int .i64 e2))
   clear r1 r2 K
   go_wp2_with fail
   exact bodyPost_ret (v := .agg #[.bool s2, .slice a2 l2.length d2, .int .i64 e2]) (by simp [results, Tryd.results16, go_sem, R0, R1, R2]) rfl ⟨_, by rw [(unhide F).1, (unhide F).2.2], by rw [(unhide F).2.1]; exact unhide RR, unhide K7⟩

theorem in_l7more : ∀ (w : World) (args : Array Value), (callFunc 16 args).run Tryd.prog w = .ok (.enter 16 args) w := enters Tryd.func16 (by decide) (fun h => by cases h)

set_option maxHeartbeats 8000000 in
theorem ivmeet_spec {b1 b2 b3 b4 : Bool} {w1l w1h w2l w2h w3l w3h w4l w4h : Nat} {v1 v2 v3 v4 : Value} {l1 l2 l3 l4 : List Int} (s1 : Bool) (e1 : Int) (hu1 : e1 ≤ 9223372036854775807) (hd1 : -9223372036854775808 ≤ e1) (s2 : Bool) (e2 : Int) (hu2 : e2 ≤ 9223372036854775807) (hd2 : -9223372036854775808 ≤ e2) (s3 : Bool) (e3 : Int) (hu3 : e3 ≤ 9223372036854775807) (hd3 : -9223372036854775808 ≤ e3) (s4 : Bool) (e4 : Int) (hu4 : e4 ≤ 9223372036854775807) (hd4 : -9223372036854775808 ≤ e4) (w : World) (r1 : Row .i64 b1 w1l w1h w v1 l1) (r2 : Row .i64 b2 w2l w2h w v2 l2) (r3 : Row .i64 b3 w3l w3h w v3 l3) (r4 : Row .i64 b4 w4l w4h w v4 l4) :
    Calls Tryd.prog 6 #[.agg #[.bool s1, v1, .int .i64 e1, .bool s2, v2, .int .i64 e2], .agg #[.bool s3, v3, .int .i64 e3, .bool s4, v4, .int .i64 e4]] w fun e w' => IvAnsS (ivC (iokB s1 l1 e1 s2 l2 e2 && iokB s3 l3 e3 s4 l4 e4 && iokB (pk (mxB s1 l1 e1 s3 l3 e3) s1 s3) (pk (mxB s1 l1 e1 s3 l3 e3) l1 l3) (pk (mxB s1 l1 e1 s3 l3 e3) e1 e3) (pk (mnB s2 l2 e2 s4 l4 e4) s2 s4) (pk (mnB s2 l2 e2 s4 l4 e4) l2 l4) (pk (mnB s2 l2 e2 s4 l4 e4) e2 e4)) (wval (pk (mxB s1 l1 e1 s3 l3 e3) s1 s3) (pk (mxB s1 l1 e1 s3 l3 e3) l1 l3)) (pk (mxB s1 l1 e1 s3 l3 e3) e1 e3) (wval (pk (mnB s2 l2 e2 s4 l4 e4) s2 s4) (pk (mnB s2 l2 e2 s4 l4 e4) l2 l4)) (pk (mnB s2 l2 e2 s4 l4 e4) e2 e4)) (wsg (wval (pk (mxB s1 l1 e1 s3 l3 e3) s1 s3) (pk (mxB s1 l1 e1 s3 l3 e3) l1 l3))) (dex (wval (pk (mxB s1 l1 e1 s3 l3 e3) s1 s3) (pk (mxB s1 l1 e1 s3 l3 e3) l1 l3)) (pk (mxB s1 l1 e1 s3 l3 e3) e1 e3)) (dlm (wval (pk (mxB s1 l1 e1 s3 l3 e3) s1 s3) (pk (mxB s1 l1 e1 s3 l3 e3) l1 l3))) (wsg (wval (pk (mnB s2 l2 e2 s4 l4 e4) s2 s4) (pk (mnB s2 l2 e2 s4 l4 e4) l2 l4))) (dex (wval (pk (mnB s2 l2 e2 s4 l4 e4) s2 s4) (pk (mnB s2 l2 e2 s4 l4 e4) l2 l4)) (pk (mnB s2 l2 e2 s4 l4 e4) e2 e4)) (dlm (wval (pk (mnB s2 l2 e2 s4 l4 e4) s2 s4) (pk (mnB s2 l2 e2 s4 l4 e4) l2 l4))) w e w' := by
  replace r1 := r1.tight
  replace r2 := r2.tight
  replace r3 := r3.tight
  replace r4 := r4.tight
  obtain ⟨c1, hc1⟩ : ∃ c, (mxB s1 l1 e1 s3 l3 e3) = c := ⟨_, rfl⟩
  obtain ⟨c2, hc2⟩ : ∃ c, (mnB s2 l2 e2 s4 l4 e4) = c := ⟨_, rfl⟩
  rw [hc1, hc2]
  have HC1 := hide hc1
  have HC2 := hide hc2
  clear hc1 hc2
  obtain ⟨S1, hS1⟩ : ∃ y, pk c1 s1 s3 = y := ⟨_, rfl⟩
  obtain ⟨P1, hP1⟩ : ∃ y, pk c1 l1 l3 = y := ⟨_, rfl⟩
  obtain ⟨E1, hE1⟩ : ∃ y, pk c1 e1 e3 = y := ⟨_, rfl⟩
  obtain ⟨S2, hS2⟩ : ∃ y, pk c2 s2 s4 = y := ⟨_, rfl⟩
  obtain ⟨P2, hP2⟩ : ∃ y, pk c2 l2 l4 = y := ⟨_, rfl⟩
  obtain ⟨E2, hE2⟩ : ∃ y, pk c2 e2 e4 = y := ⟨_, rfl⟩
  rw [hS1, hP1, hE1, hS2, hP2, hE2]
  have HS1 := hide hS1
  clear hS1
  have HP1 := hide hP1
  clear hP1
  have HE1 := hide hE1
  clear hE1
  have HS2 := hide hS2
  clear hS2
  have HP2 := hide hP2
  clear hP2
  have HE2 := hide hE2
  clear hE2
  obtain ⟨CC, hCC⟩ : ∃ c, ivC (iokB s1 l1 e1 s2 l2 e2 && iokB s3 l3 e3 s4 l4 e4 && iokB S1 P1 E1 S2 P2 E2) (wval S1 P1) (E1) (wval S2 P2) (E2) = c := ⟨_, rfl⟩
  rw [hCC]
  have HCC := hide hCC
  clear hCC
  obtain ⟨W1, hW1⟩ : ∃ c, wsg (wval S1 P1) = c := ⟨_, rfl⟩
  obtain ⟨D1, hD1⟩ : ∃ c, dex (wval S1 P1) (E1) = c := ⟨_, rfl⟩
  obtain ⟨Q1, hQ1⟩ : ∃ c, dlm (wval S1 P1) = c := ⟨_, rfl⟩
  obtain ⟨W2, hW2⟩ : ∃ c, wsg (wval S2 P2) = c := ⟨_, rfl⟩
  obtain ⟨D2, hD2⟩ : ∃ c, dex (wval S2 P2) (E2) = c := ⟨_, rfl⟩
  obtain ⟨Q2, hQ2⟩ : ∃ c, dlm (wval S2 P2) = c := ⟨_, rfl⟩
  try rw [hW1]
  try rw [hD1]
  try rw [hQ1]
  try rw [hW2]
  try rw [hD2]
  try rw [hQ2]
  have HW1 := hide hW1
  clear hW1
  have HD1 := hide hD1
  clear hD1
  have HQ1 := hide hQ1
  clear hQ1
  have HW2 := hide hW2
  clear hW2
  have HD2 := hide hD2
  clear hD2
  have HQ2 := hide hQ2
  clear hQ2
  obtain ⟨Wn, hn0⟩ : ∃ wz, wz = (((w.alloc (.cells #[.bool s1, v1, .int .i64 e1, .bool s2, v2, .int .i64 e2] 38)).alloc (.cells #[.bool s3, v3, .int .i64 e3, .bool s4, v4, .int .i64 e4] 38)).alloc (.cells #[.bool false, .slice none 0 0, .int .i64 0, .bool false, .slice none 0 0, .int .i64 0] 38)) := ⟨_, rfl⟩
  have k0 : Kept 0 0 w Wn := by rw [hn0]; exact ((((Kept.refl 0 0 w).alloc _).alloc _).alloc _)
  have bp0 : Wn.cell? ⟨w.heap.size, 0, none⟩ = some (.bool s1) := by rw [hn0]; exact old_cell _ (old_cell _ (new_cell2 _ _ _ _ _ _ (by simp) rfl))
  have bp1 : Wn.cell? ⟨w.heap.size, 1, none⟩ = some (v1) := by rw [hn0]; exact old_cell _ (old_cell _ (new_cell2 _ _ _ _ _ _ (by simp) rfl))
  have bp2 : Wn.cell? ⟨w.heap.size, 2, none⟩ = some (.int .i64 e1) := by rw [hn0]; exact old_cell _ (old_cell _ (new_cell2 _ _ _ _ _ _ (by simp) rfl))
  have bp3 : Wn.cell? ⟨w.heap.size, 3, none⟩ = some (.bool s2) := by rw [hn0]; exact old_cell _ (old_cell _ (new_cell2 _ _ _ _ _ _ (by simp) rfl))
  have bp4 : Wn.cell? ⟨w.heap.size, 4, none⟩ = some (v2) := by rw [hn0]; exact old_cell _ (old_cell _ (new_cell2 _ _ _ _ _ _ (by simp) rfl))
  have bp5 : Wn.cell? ⟨w.heap.size, 5, none⟩ = some (.int .i64 e2) := by rw [hn0]; exact old_cell _ (old_cell _ (new_cell2 _ _ _ _ _ _ (by simp) rfl))
  have bq0 : Wn.cell? ⟨w.heap.size + 1, 0, none⟩ = some (.bool s3) := by rw [hn0]; exact old_cell _ (new_cell2 _ _ _ _ _ _ (by simp) rfl)
  have bq1 : Wn.cell? ⟨w.heap.size + 1, 1, none⟩ = some (v3) := by rw [hn0]; exact old_cell _ (new_cell2 _ _ _ _ _ _ (by simp) rfl)
  have bq2 : Wn.cell? ⟨w.heap.size + 1, 2, none⟩ = some (.int .i64 e3) := by rw [hn0]; exact old_cell _ (new_cell2 _ _ _ _ _ _ (by simp) rfl)
  have bq3 : Wn.cell? ⟨w.heap.size + 1, 3, none⟩ = some (.bool s4) := by rw [hn0]; exact old_cell _ (new_cell2 _ _ _ _ _ _ (by simp) rfl)
  have bq4 : Wn.cell? ⟨w.heap.size + 1, 4, none⟩ = some (v4) := by rw [hn0]; exact old_cell _ (new_cell2 _ _ _ _ _ _ (by simp) rfl)
  have bq5 : Wn.cell? ⟨w.heap.size + 1, 5, none⟩ = some (.int .i64 e4) := by rw [hn0]; exact old_cell _ (new_cell2 _ _ _ _ _ _ (by simp) rfl)
  have R0 : Wn.cell? ⟨w.heap.size + 2, 0, none⟩ = some (.bool false) := by rw [hn0]; exact new_cell2 _ _ _ _ _ _ (by simp) rfl
  have Rf0 : Wn.frozen? ⟨w.heap.size + 2, 0, none⟩ = false := by rw [hn0]; exact new_loose2 _ _ _ _ _ (by simp)
  have R1 : Wn.cell? ⟨w.heap.size + 2, 1, none⟩ = some (.slice none 0 0) := by rw [hn0]; exact new_cell2 _ _ _ _ _ _ (by simp) rfl
  have Rf1 : Wn.frozen? ⟨w.heap.size + 2, 1, none⟩ = false := by rw [hn0]; exact new_loose2 _ _ _ _ _ (by simp)
  have R2 : Wn.cell? ⟨w.heap.size + 2, 2, none⟩ = some (.int .i64 0) := by rw [hn0]; exact new_cell2 _ _ _ _ _ _ (by simp) rfl
  have Rf2 : Wn.frozen? ⟨w.heap.size + 2, 2, none⟩ = false := by rw [hn0]; exact new_loose2 _ _ _ _ _ (by simp)
  have R3 : Wn.cell? ⟨w.heap.size + 2, 3, none⟩ = some (.bool false) := by rw [hn0]; exact new_cell2 _ _ _ _ _ _ (by simp) rfl
  have Rf3 : Wn.frozen? ⟨w.heap.size + 2, 3, none⟩ = false := by rw [hn0]; exact new_loose2 _ _ _ _ _ (by simp)
  have R4 : Wn.cell? ⟨w.heap.size + 2, 4, none⟩ = some (.slice none 0 0) := by rw [hn0]; exact new_cell2 _ _ _ _ _ _ (by simp) rfl
  have Rf4 : Wn.frozen? ⟨w.heap.size + 2, 4, none⟩ = false := by rw [hn0]; exact new_loose2 _ _ _ _ _ (by simp)
  have R5 : Wn.cell? ⟨w.heap.size + 2, 5, none⟩ = some (.int .i64 0) := by rw [hn0]; exact new_cell2 _ _ _ _ _ _ (by simp) rfl
  have Rf5 : Wn.frozen? ⟨w.heap.size + 2, 5, none⟩ = false := by rw [hn0]; exact new_loose2 _ _ _ _ _ (by simp)
  subst hn0
  replace r1 := r1.kept k0 (by omega)
  replace r2 := r2.kept k0 (by omega)
  replace r3 := r3.kept k0 (by omega)
  replace r4 := r4.kept k0 (by omega)
  have s0 : (((w.alloc (.cells #[.bool s1, v1, .int .i64 e1, .bool s2, v2, .int .i64 e2] 38)).alloc (.cells #[.bool s3, v3, .int .i64 e3, .bool s4, v4, .int .i64 e4] 38)).alloc (.cells #[.bool false, .slice none 0 0, .int .i64 0, .bool false, .slice none 0 0, .int .i64 0] 38)).heap.size = w.heap.size + 3 := by simp
  obtain ⟨a1, d1, hv⟩ := Row.form' r1
  subst hv
  obtain ⟨a2, d2, hv⟩ := Row.form' r2
  subst hv
  obtain ⟨a3, d3, hv⟩ := Row.form' r3
  subst hv
  obtain ⟨a4, d4, hv⟩ := Row.form' r4
  subst hv
  have K := hide (k0)
  clear k0
  have S0 := hide s0
  clear s0
  go_enter Tryd.func6, Tryd.ntmps6
  go_wp2_with fail
  generalize (((w.alloc (.cells #[.bool s1, .slice a1 l1.length d1, .int .i64 e1, .bool s2, .slice a2 l2.length d2, .int .i64 e2] 38)).alloc (.cells #[.bool s3, .slice a3 l3.length d3, .int .i64 e3, .bool s4, .slice a4 l4.length d4, .int .i64 e4] 38)).alloc (.cells #[.bool false, .slice none 0 0, .int .i64 0, .bool false, .slice none 0 0, .int .i64 0] 38)) = W at *
  have sS1 : w.heap.size + 3 ≤ W.heap.size := by have := unhide S0; omega
  refine (ivok_spec s1 e1 hu1 hd1 s2 e2 hu2 hd2 _ r1 r2).mono ?_
  rintro e w1 ⟨rfl, k1⟩
  replace r1 := r1.kp k1
  replace r2 := r2.kp k1
  replace r3 := r3.kp k1
  replace r4 := r4.kp k1
  replace Rf0 := k1.loose0 (zbl R0) Rf0
  replace Rf1 := k1.loose0 (zbl R1) Rf1
  replace Rf2 := k1.loose0 (zbl R2) Rf2
  replace Rf3 := k1.loose0 (zbl R3) Rf3
  replace Rf4 := k1.loose0 (zbl R4) Rf4
  replace Rf5 := k1.loose0 (zbl R5) Rf5
  replace bp0 := k1.cell0 bp0
  replace bp1 := k1.cell0 bp1
  replace bp2 := k1.cell0 bp2
  replace bp3 := k1.cell0 bp3
  replace bp4 := k1.cell0 bp4
  replace bp5 := k1.cell0 bp5
  replace bq0 := k1.cell0 bq0
  replace bq1 := k1.cell0 bq1
  replace bq2 := k1.cell0 bq2
  replace bq3 := k1.cell0 bq3
  replace bq4 := k1.cell0 bq4
  replace bq5 := k1.cell0 bq5
  replace R0 := k1.cell0 R0
  replace R1 := k1.cell0 R1
  replace R2 := k1.cell0 R2
  replace R3 := k1.cell0 R3
  replace R4 := k1.cell0 R4
  replace R5 := k1.cell0 R5
  replace K := hide ((unhide K).trans k1)
  have z2 := k1.size
  clear k1
  cases ho : iokB s1 l1 e1 s2 l2 e2
  ·have EC : Hid (CC = false) := by show _ = _; rw [← unhide HCC]; exact ivC_no (by rw [ho]; rfl)
   have K7 := hide (((((((unhide K).setNew (p := ⟨w.heap.size + 2, 0, none⟩) (by simp) (.bool false)).setNew (p := ⟨w.heap.size + 2, 1, none⟩) (by simp) (.slice none 0 0)).setNew (p := ⟨w.heap.size + 2, 2, none⟩) (by simp) (.int .i64 0)).setNew (p := ⟨w.heap.size + 2, 3, none⟩) (by simp) (.bool false)).setNew (p := ⟨w.heap.size + 2, 4, none⟩) (by simp) (.slice none 0 0)).setNew (p := ⟨w.heap.size + 2, 5, none⟩) (by simp) (.int .i64 0))
   clear r1 r2 r3 r4 K
   go_wp2_with fail
   exact bodyPost_ret (v := .tuple #[.agg #[.bool false, .slice none 0 0, .int .i64 0, .bool false, .slice none 0 0, .int .i64 0], .bool false]) (by simp [results, Tryd.results6, go_sem, R0, R1, R2, R3, R4, R5]) rfl (by rw [unhide EC]; exact ivS_no (unhide K7))
  obtain ⟨i1, i2, -⟩ := iok_parts ho
  have I1 := hide i1
  have I2 := hide i2
  have HO := hide ho
  clear ho i1 i2
  go_wp2_with fail
  refine (ivok_spec s3 e3 hu3 hd3 s4 e4 hu4 hd4 _ r3 r4).mono ?_
  rintro e w3 ⟨rfl, k3⟩
  replace r1 := r1.kp k3
  replace r2 := r2.kp k3
  replace r3 := r3.kp k3
  replace r4 := r4.kp k3
  replace Rf0 := k3.loose0 (zbl R0) Rf0
  replace Rf1 := k3.loose0 (zbl R1) Rf1
  replace Rf2 := k3.loose0 (zbl R2) Rf2
  replace Rf3 := k3.loose0 (zbl R3) Rf3
  replace Rf4 := k3.loose0 (zbl R4) Rf4
  replace Rf5 := k3.loose0 (zbl R5) Rf5
  replace bp0 := k3.cell0 bp0
  replace bp1 := k3.cell0 bp1
  replace bp2 := k3.cell0 bp2
  replace bp3 := k3.cell0 bp3
  replace bp4 := k3.cell0 bp4
  replace bp5 := k3.cell0 bp5
  replace bq0 := k3.cell0 bq0
  replace bq1 := k3.cell0 bq1
  replace bq2 := k3.cell0 bq2
  replace bq3 := k3.cell0 bq3
  replace bq4 := k3.cell0 bq4
  replace bq5 := k3.cell0 bq5
  replace R0 := k3.cell0 R0
  replace R1 := k3.cell0 R1
  replace R2 := k3.cell0 R2
  replace R3 := k3.cell0 R3
  replace R4 := k3.cell0 R4
  replace R5 := k3.cell0 R5
  replace K := hide ((unhide K).trans k3)
  have z4 := k3.size
  clear k3
  cases ho : iokB s3 l3 e3 s4 l4 e4
  ·have EC : Hid (CC = false) := by show _ = _; rw [← unhide HCC]; exact ivC_no (by rw [ho, unhide HO]; rfl)
   have K7 := hide (((((((unhide K).setNew (p := ⟨w.heap.size + 2, 0, none⟩) (by simp) (.bool false)).setNew (p := ⟨w.heap.size + 2, 1, none⟩) (by simp) (.slice none 0 0)).setNew (p := ⟨w.heap.size + 2, 2, none⟩) (by simp) (.int .i64 0)).setNew (p := ⟨w.heap.size + 2, 3, none⟩) (by simp) (.bool false)).setNew (p := ⟨w.heap.size + 2, 4, none⟩) (by simp) (.slice none 0 0)).setNew (p := ⟨w.heap.size + 2, 5, none⟩) (by simp) (.int .i64 0))
   clear r1 r2 r3 r4 K
   go_wp2_with fail
   exact bodyPost_ret (v := .tuple #[.agg #[.bool false, .slice none 0 0, .int .i64 0, .bool false, .slice none 0 0, .int .i64 0], .bool false]) (by simp [results, Tryd.results6, go_sem, R0, R1, R2, R3, R4, R5]) rfl (by rw [unhide EC]; exact ivS_no (unhide K7))
  obtain ⟨i3, i4, -⟩ := iok_parts ho
  have I3 := hide i3
  have I4 := hide i4
  have HO2 := hide ho
  clear ho i3 i4
  have OP1 : Hid (dokB S1 P1 E1 = true) := by show _ = _; rw [← unhide HS1, ← unhide HP1, ← unhide HE1]; exact dok_pk _ (unhide I1) (unhide I3)
  have gu1 : E1 ≤ 9223372036854775807 := by rw [← unhide HE1]; exact pk_le _ hu1 hu3
  have gd1 : -9223372036854775808 ≤ E1 := by rw [← unhide HE1]; exact pk_ge _ hd1 hd3
  have OP2 : Hid (dokB S2 P2 E2 = true) := by show _ = _; rw [← unhide HS2, ← unhide HP2, ← unhide HE2]; exact dok_pk _ (unhide I2) (unhide I4)
  have gu2 : E2 ≤ 9223372036854775807 := by rw [← unhide HE2]; exact pk_le _ hu2 hu4
  have gd2 : -9223372036854775808 ≤ E2 := by rw [← unhide HE2]; exact pk_ge _ hd2 hd4
  have mkA := fun w' q3' r1' r2' => more7_spec (b1 := b1) (w1l := w1l) (w1h := w.heap.size) (b2 := b3) (w2l := w3l) (w2h := w.heap.size) (v1 := .slice a1 l1.length d1) (v2 := .slice a3 l3.length d3) (l1 := l1) (l2 := l3) s1 e1 hu1 hd1 s3 e3 hu3 hd3 w' r1' r2' (H := w.heap.size) (Nat.le_refl _) (Nat.le_refl _) q3' (unhide I1) (unhide I3)
  rw [unhide HC1, unhide HS1, unhide HP1, unhide HE1] at mkA
  have mkB := fun w' q3' r1' r2' => less7_spec (b1 := b2) (w1l := w2l) (w1h := w.heap.size) (b2 := b4) (w2l := w4l) (w2h := w.heap.size) (v1 := .slice a2 l2.length d2) (v2 := .slice a4 l4.length d4) (l1 := l2) (l2 := l4) s2 e2 hu2 hd2 s4 e4 hu4 hd4 w' r1' r2' (H := w.heap.size) (Nat.le_refl _) (Nat.le_refl _) q3' (unhide I2) (unhide I4)
  rw [unhide HC2, unhide HS2, unhide HP2, unhide HE2] at mkB
  have mkf : ∀ w' vA vB lo' hi' lo'' hi'' b' b'', Row .i64 b' lo' hi' w' vA P1 → Row .i64 b'' lo'' hi'' w' vB P2 → iokB S1 P1 E1 S2 P2 E2 = true → Calls Tryd.prog 19 #[.agg #[.bool S1, vA, .int .i64 E1, .bool S2, vB, .int .i64 E2]] w' fun e w'' => IvAnsS CC W1 D1 Q1 W2 D2 Q2 w' e w'' := fun w' vA vB lo' hi' lo'' hi'' b' b'' rA' rB' hio => by
   have mk := fits7_spec S1 E1 gu1 gd1 S2 E2 gu2 gd2 w' rA' rB'
   obtain ⟨f1, f2, f3⟩ := d_back (unhide OP1)
   obtain ⟨g1, g2, g3⟩ := d_back (unhide OP2)
   have hcc := unhide HCC
   unfold ivC at hcc
   rw [f1, f2, f3, g1, g2, g3, unhide HO, unhide HO2, hio] at hcc
   simp only [Bool.true_and] at hcc
   rw [hcc] at mk
   refine mk.mono (fun e w' h => ?_)
   rw [← unhide HW1, ← unhide HD1, ← unhide HQ1, ← unhide HW2, ← unhide HD2, ← unhide HQ2, f1, f2, f3, g1, g2, g3]
   exact h
  go_upto_region 3 with fail
  go_cut [6] (fun q wx => ∃ X vA vB, q = .pointer (some ⟨X, 0, none⟩) ∧ wx.cell? ⟨X, 0, none⟩ = some (.bool S1) ∧ wx.cell? ⟨X, 1, none⟩ = some (vA) ∧ wx.cell? ⟨X, 2, none⟩ = some (.int .i64 E1) ∧ wx.cell? ⟨X, 3, none⟩ = some (.bool S2) ∧ wx.cell? ⟨X, 4, none⟩ = some (vB) ∧ wx.cell? ⟨X, 5, none⟩ = some (.int .i64 E2) ∧ Row .i64 false 0 w.heap.size wx vA P1 ∧ Row .i64 false 0 w.heap.size wx vB P2 ∧ Kept 0 0 w3 wx)
  case first =>
   have kw := Kept.refl 0 0 w3
   have kd := (Kept.refl 0 0 w3).drew
   replace r1 := r1.kp kd
   replace r2 := r2.kp kd
   replace r3 := r3.kp kd
   replace r4 := r4.kp kd
   replace kw := kw.trans kd
   replace Rf0 := kd.loose0 (zbl R0) Rf0
   replace Rf1 := kd.loose0 (zbl R1) Rf1
   replace Rf2 := kd.loose0 (zbl R2) Rf2
   replace Rf3 := kd.loose0 (zbl R3) Rf3
   replace Rf4 := kd.loose0 (zbl R4) Rf4
   replace Rf5 := kd.loose0 (zbl R5) Rf5
   replace bp0 := kd.cell0 bp0
   replace bp1 := kd.cell0 bp1
   replace bp2 := kd.cell0 bp2
   replace bp3 := kd.cell0 bp3
   replace bp4 := kd.cell0 bp4
   replace bp5 := kd.cell0 bp5
   replace bq0 := kd.cell0 bq0
   replace bq1 := kd.cell0 bq1
   replace bq2 := kd.cell0 bq2
   replace bq3 := kd.cell0 bq3
   replace bq4 := kd.cell0 bq4
   replace bq5 := kd.cell0 bq5
   replace R0 := kd.cell0 R0
   replace R1 := kd.cell0 R1
   replace R2 := kd.cell0 R2
   replace R3 := kd.cell0 R3
   replace R4 := kd.cell0 R4
   replace R5 := kd.cell0 R5
   replace K := hide ((unhide K).trans kd)
   have z5 := kd.size
   clear kd
   refine wp_region_held_drew (S := (fun w' => w'.cell? ⟨w.heap.size, 0, none⟩ = some (.bool s1) ∧ w'.cell? ⟨w.heap.size, 1, none⟩ = some (.slice a1 l1.length d1) ∧ w'.cell? ⟨w.heap.size, 2, none⟩ = some (.int .i64 e1) ∧ w'.cell? ⟨w.heap.size, 3, none⟩ = some (.bool s2) ∧ w'.cell? ⟨w.heap.size, 4, none⟩ = some (.slice a2 l2.length d2) ∧ w'.cell? ⟨w.heap.size, 5, none⟩ = some (.int .i64 e2) ∧ w'.cell? ⟨w.heap.size + 1, 0, none⟩ = some (.bool s3) ∧ w'.cell? ⟨w.heap.size + 1, 1, none⟩ = some (.slice a3 l3.length d3) ∧ w'.cell? ⟨w.heap.size + 1, 2, none⟩ = some (.int .i64 e3) ∧ w'.cell? ⟨w.heap.size + 1, 3, none⟩ = some (.bool s4) ∧ w'.cell? ⟨w.heap.size + 1, 4, none⟩ = some (.slice a4 l4.length d4) ∧ w'.cell? ⟨w.heap.size + 1, 5, none⟩ = some (.int .i64 e4))) (by kernel_rfl) ?_ (fun hH => ?_)
   ·exact ⟨bp0, bp1, bp2, bp3, bp4, bp5, bq0, bq1, bq2, bq3, bq4, bq5⟩
   generalize w3.drew = wd at *
   refine wpAnyH_take (i := 0) (v := .pointer (some ⟨w.heap.size, 0, none⟩)) rfl (by kernel_rfl) (by kernel_rfl) (by kernel_rfl) (fun _ _ _ h => h) (Or.inl ⟨by rfl, ?_⟩) hH ?_
   ·intro wq hSw
    try dsimp only at hSw
    go_simp
   try simp only [Act.put, zq1, zq2, zq3, zq4, zq5, zq6]
   refine wpAnyH_take (i := 1) (v := .agg #[.bool s1, .slice a1 l1.length d1, .int .i64 e1]) rfl (by kernel_rfl) (by kernel_rfl) (by kernel_rfl) (fun _ _ _ h => h) (Or.inl ⟨by rfl, ?_⟩) hH ?_
   ·intro wq hSw
    try dsimp only at hSw
    go_simp
   try simp only [Act.put, zq1, zq2, zq3, zq4, zq5, zq6]
   refine wpAnyH_take (i := 2) (v := .pointer (some ⟨w.heap.size + 1, 0, none⟩)) rfl (by kernel_rfl) (by kernel_rfl) (by kernel_rfl) (fun _ _ _ h => h) (Or.inl ⟨by rfl, ?_⟩) hH ?_
   ·intro wq hSw
    try dsimp only at hSw
    go_simp
   try simp only [Act.put, zq1, zq2, zq3, zq4, zq5, zq6]
   refine wpAnyH_take (i := 3) (v := .agg #[.bool s3, .slice a3 l3.length d3, .int .i64 e3]) rfl (by kernel_rfl) (by kernel_rfl) (by kernel_rfl) (fun _ _ _ h => h) (Or.inl ⟨by rfl, ?_⟩) hH ?_
   ·intro wq hSw
    try dsimp only at hSw
    go_simp
   try simp only [Act.put, zq1, zq2, zq3, zq4, zq5, zq6]
   refine wpAnyH_take (i := 5) (v := .pointer (some ⟨w.heap.size, 3, none⟩)) rfl (by kernel_rfl) (by kernel_rfl) (by kernel_rfl) (fun _ _ _ h => h) (Or.inl ⟨by rfl, ?_⟩) hH ?_
   ·intro wq hSw
    try dsimp only at hSw
    go_simp
   try simp only [Act.put, zq1, zq2, zq3, zq4, zq5, zq6]
   refine wpAnyH_take (i := 6) (v := .agg #[.bool s2, .slice a2 l2.length d2, .int .i64 e2]) rfl (by kernel_rfl) (by kernel_rfl) (by kernel_rfl) (fun _ _ _ h => h) (Or.inl ⟨by rfl, ?_⟩) hH ?_
   ·intro wq hSw
    try dsimp only at hSw
    go_simp
   try simp only [Act.put, zq1, zq2, zq3, zq4, zq5, zq6]
   refine wpAnyH_take (i := 7) (v := .pointer (some ⟨w.heap.size + 1, 3, none⟩)) rfl (by kernel_rfl) (by kernel_rfl) (by kernel_rfl) (fun _ _ _ h => h) (Or.inl ⟨by rfl, ?_⟩) hH ?_
   ·intro wq hSw
    try dsimp only at hSw
    go_simp
   try simp only [Act.put, zq1, zq2, zq3, zq4, zq5, zq6]
   refine wpAnyH_take (i := 8) (v := .agg #[.bool s4, .slice a4 l4.length d4, .int .i64 e4]) rfl (by kernel_rfl) (by kernel_rfl) (by kernel_rfl) (fun _ _ _ h => h) (Or.inl ⟨by rfl, ?_⟩) hH ?_
   ·intro wq hSw
    try dsimp only at hSw
    go_simp
   try simp only [Act.put, zq1, zq2, zq3, zq4, zq5, zq6]
   refine wpAnyH_ready (rs := [4, 11]) (by kernel_rfl) (by simp) ?_
   refine AllReadyH.cons rfl (fun KK hK => ?_) (AllReadyH.cons rfl (fun KK hK => ?_) AllReadyH.nil)
   ·simp only [zq1, zq2, zq3]
    rw [if_pos (by rfl)]
    refine wps2 16 (.tmp 17) (.tmp 19) _ rfl in_l7more (.agg #[.bool s1, .slice a1 l1.length d1, .int .i64 e1]) (.agg #[.bool s3, .slice a3 l3.length d3, .int .i64 e3]) rfl rfl (mkA _ (by omega) r1 r3) ?_
    rintro e w6 ⟨vA, rfl, rA, k6⟩
    refine ⟨_, rfl, ?_⟩
    replace r1 := r1.kp k6
    replace r2 := r2.kp k6
    replace r3 := r3.kp k6
    replace r4 := r4.kp k6
    replace kw := kw.trans k6
    replace Rf0 := k6.loose0 (zbl R0) Rf0
    replace Rf1 := k6.loose0 (zbl R1) Rf1
    replace Rf2 := k6.loose0 (zbl R2) Rf2
    replace Rf3 := k6.loose0 (zbl R3) Rf3
    replace Rf4 := k6.loose0 (zbl R4) Rf4
    replace Rf5 := k6.loose0 (zbl R5) Rf5
    replace bp0 := k6.cell0 bp0
    replace bp1 := k6.cell0 bp1
    replace bp2 := k6.cell0 bp2
    replace bp3 := k6.cell0 bp3
    replace bp4 := k6.cell0 bp4
    replace bp5 := k6.cell0 bp5
    replace bq0 := k6.cell0 bq0
    replace bq1 := k6.cell0 bq1
    replace bq2 := k6.cell0 bq2
    replace bq3 := k6.cell0 bq3
    replace bq4 := k6.cell0 bq4
    replace bq5 := k6.cell0 bq5
    replace R0 := k6.cell0 R0
    replace R1 := k6.cell0 R1
    replace R2 := k6.cell0 R2
    replace R3 := k6.cell0 R3
    replace R4 := k6.cell0 R4
    replace R5 := k6.cell0 R5
    replace K := hide ((unhide K).trans k6)
    have z7 := k6.size
    clear k6
    clear hH
    refine hK.out _ _ ?_ (fun hH => ?_)
    ·exact ⟨bp0, bp1, bp2, bp3, bp4, bp5, bq0, bq1, bq2, bq3, bq4, bq5⟩
    clear hK KK
    try simp only [Act.put, zq1, zq2, zq3, zq4, zq5, zq6]
    obtain ⟨aA, dA, hv⟩ := Row.form' rA
    subst hv
    refine wpAnyH_ready (rs := [9, 11]) (by kernel_rfl) (by simp) ?_
    refine AllReadyH.cons rfl (fun KK hK => ?_) (AllReadyH.cons rfl (fun KK hK => ?_) AllReadyH.nil)
    ·simp only [zq1, zq2, zq3]
     rw [if_pos (by rfl)]
     refine wps2 17 (.tmp 22) (.tmp 24) _ rfl in_l7less (.agg #[.bool s2, .slice a2 l2.length d2, .int .i64 e2]) (.agg #[.bool s4, .slice a4 l4.length d4, .int .i64 e4]) rfl rfl (mkB _ (by omega) r2 r4) ?_
     rintro e w8 ⟨vB, rfl, rB, k8⟩
     refine ⟨_, rfl, ?_⟩
     replace r1 := r1.kp k8
     replace r2 := r2.kp k8
     replace r3 := r3.kp k8
     replace r4 := r4.kp k8
     replace rA := rA.kp k8
     replace kw := kw.trans k8
     replace Rf0 := k8.loose0 (zbl R0) Rf0
     replace Rf1 := k8.loose0 (zbl R1) Rf1
     replace Rf2 := k8.loose0 (zbl R2) Rf2
     replace Rf3 := k8.loose0 (zbl R3) Rf3
     replace Rf4 := k8.loose0 (zbl R4) Rf4
     replace Rf5 := k8.loose0 (zbl R5) Rf5
     replace bp0 := k8.cell0 bp0
     replace bp1 := k8.cell0 bp1
     replace bp2 := k8.cell0 bp2
     replace bp3 := k8.cell0 bp3
     replace bp4 := k8.cell0 bp4
     replace bp5 := k8.cell0 bp5
     replace bq0 := k8.cell0 bq0
     replace bq1 := k8.cell0 bq1
     replace bq2 := k8.cell0 bq2
     replace bq3 := k8.cell0 bq3
     replace bq4 := k8.cell0 bq4
     replace bq5 := k8.cell0 bq5
     replace R0 := k8.cell0 R0
     replace R1 := k8.cell0 R1
     replace R2 := k8.cell0 R2
     replace R3 := k8.cell0 R3
     replace R4 := k8.cell0 R4
     replace R5 := k8.cell0 R5
     replace K := hide ((unhide K).trans k8)
     have z9 := k8.size
     clear k8
     clear hH
     refine hK.out _ _ ?_ (fun hH => ?_)
     ·exact ⟨bp0, bp1, bp2, bp3, bp4, bp5, bq0, bq1, bq2, bq3, bq4, bq5⟩
     clear hK KK
     try simp only [Act.put, zq1, zq2, zq3, zq4, zq5, zq6]
     obtain ⟨aB, dB, hv⟩ := Row.form' rB
     subst hv
     refine wpAnyH_take (i := 10) (v := .agg #[.bool S1, .slice aA P1.length dA, .int .i64 E1, .bool S2, .slice aB P2.length dB, .int .i64 E2]) rfl (by kernel_rfl) (by kernel_rfl) (by kernel_rfl) (fun _ _ _ h => h) (Or.inl ⟨by rfl, ?_⟩) hH ?_
     ·intro wq hSw
      try dsimp only at hSw
      go_simp
     try simp only [Act.put, zq1, zq2, zq3, zq4, zq5, zq6]
     refine wpAnyH_ready (rs := [11]) (by kernel_rfl) (by simp) ?_
     refine AllReadyH.cons rfl (fun KK hK => ?_) AllReadyH.nil
     ·simp only [zq1, zq2, zq3]
      rw [if_pos (by rfl)]
      go_simp
      have kn := (Kept.refl 0 0 w8).alloc (.cells #[.bool false, .slice none 0 0, .int .i64 0, .bool false, .slice none 0 0, .int .i64 0] 38)
      replace r1 := r1.kp kn
      replace r2 := r2.kp kn
      replace r3 := r3.kp kn
      replace r4 := r4.kp kn
      replace rA := rA.kp kn
      replace rB := rB.kp kn
      replace kw := kw.trans kn
      replace Rf0 := kn.loose0 (zbl R0) Rf0
      replace Rf1 := kn.loose0 (zbl R1) Rf1
      replace Rf2 := kn.loose0 (zbl R2) Rf2
      replace Rf3 := kn.loose0 (zbl R3) Rf3
      replace Rf4 := kn.loose0 (zbl R4) Rf4
      replace Rf5 := kn.loose0 (zbl R5) Rf5
      replace bp0 := kn.cell0 bp0
      replace bp1 := kn.cell0 bp1
      replace bp2 := kn.cell0 bp2
      replace bp3 := kn.cell0 bp3
      replace bp4 := kn.cell0 bp4
      replace bp5 := kn.cell0 bp5
      replace bq0 := kn.cell0 bq0
      replace bq1 := kn.cell0 bq1
      replace bq2 := kn.cell0 bq2
      replace bq3 := kn.cell0 bq3
      replace bq4 := kn.cell0 bq4
      replace bq5 := kn.cell0 bq5
      replace R0 := kn.cell0 R0
      replace R1 := kn.cell0 R1
      replace R2 := kn.cell0 R2
      replace R3 := kn.cell0 R3
      replace R4 := kn.cell0 R4
      replace R5 := kn.cell0 R5
      replace K := hide ((unhide K).trans kn)
      have z11 := kn.size
      clear kn
      have szX : w8.heap.size < (w8.alloc (.cells #[.bool false, .slice none 0 0, .int .i64 0, .bool false, .slice none 0 0, .int .i64 0] 38)).heap.size := by simp
      have X_0 : (w8.alloc (.cells #[.bool false, .slice none 0 0, .int .i64 0, .bool false, .slice none 0 0, .int .i64 0] 38)).cell? ⟨w8.heap.size, 0, none⟩ = some (.bool false) := new_cell2 _ _ _ _ _ _ rfl rfl
      have X_f0 : (w8.alloc (.cells #[.bool false, .slice none 0 0, .int .i64 0, .bool false, .slice none 0 0, .int .i64 0] 38)).frozen? ⟨w8.heap.size, 0, none⟩ = false := new_loose2 _ _ _ _ _ rfl
      have X_1 : (w8.alloc (.cells #[.bool false, .slice none 0 0, .int .i64 0, .bool false, .slice none 0 0, .int .i64 0] 38)).cell? ⟨w8.heap.size, 1, none⟩ = some (.slice none 0 0) := new_cell2 _ _ _ _ _ _ rfl rfl
      have X_f1 : (w8.alloc (.cells #[.bool false, .slice none 0 0, .int .i64 0, .bool false, .slice none 0 0, .int .i64 0] 38)).frozen? ⟨w8.heap.size, 1, none⟩ = false := new_loose2 _ _ _ _ _ rfl
      have X_2 : (w8.alloc (.cells #[.bool false, .slice none 0 0, .int .i64 0, .bool false, .slice none 0 0, .int .i64 0] 38)).cell? ⟨w8.heap.size, 2, none⟩ = some (.int .i64 0) := new_cell2 _ _ _ _ _ _ rfl rfl
      have X_f2 : (w8.alloc (.cells #[.bool false, .slice none 0 0, .int .i64 0, .bool false, .slice none 0 0, .int .i64 0] 38)).frozen? ⟨w8.heap.size, 2, none⟩ = false := new_loose2 _ _ _ _ _ rfl
      have X_3 : (w8.alloc (.cells #[.bool false, .slice none 0 0, .int .i64 0, .bool false, .slice none 0 0, .int .i64 0] 38)).cell? ⟨w8.heap.size, 3, none⟩ = some (.bool false) := new_cell2 _ _ _ _ _ _ rfl rfl
      have X_f3 : (w8.alloc (.cells #[.bool false, .slice none 0 0, .int .i64 0, .bool false, .slice none 0 0, .int .i64 0] 38)).frozen? ⟨w8.heap.size, 3, none⟩ = false := new_loose2 _ _ _ _ _ rfl
      have X_4 : (w8.alloc (.cells #[.bool false, .slice none 0 0, .int .i64 0, .bool false, .slice none 0 0, .int .i64 0] 38)).cell? ⟨w8.heap.size, 4, none⟩ = some (.slice none 0 0) := new_cell2 _ _ _ _ _ _ rfl rfl
      have X_f4 : (w8.alloc (.cells #[.bool false, .slice none 0 0, .int .i64 0, .bool false, .slice none 0 0, .int .i64 0] 38)).frozen? ⟨w8.heap.size, 4, none⟩ = false := new_loose2 _ _ _ _ _ rfl
      have X_5 : (w8.alloc (.cells #[.bool false, .slice none 0 0, .int .i64 0, .bool false, .slice none 0 0, .int .i64 0] 38)).cell? ⟨w8.heap.size, 5, none⟩ = some (.int .i64 0) := new_cell2 _ _ _ _ _ _ rfl rfl
      have X_f5 : (w8.alloc (.cells #[.bool false, .slice none 0 0, .int .i64 0, .bool false, .slice none 0 0, .int .i64 0] 38)).frozen? ⟨w8.heap.size, 5, none⟩ = false := new_loose2 _ _ _ _ _ rfl
      clear hH
      refine hK.out _ _ ?_ (fun hH => ?_)
      ·exact ⟨bp0, bp1, bp2, bp3, bp4, bp5, bq0, bq1, bq2, bq3, bq4, bq5⟩
      clear hK KK
      try simp only [Act.put, zq1, zq2, zq3, zq4, zq5, zq6]
      generalize w8.alloc (.cells #[.bool false, .slice none 0 0, .int .i64 0, .bool false, .slice none 0 0, .int .i64 0] 38) = w10 at *
      refine wpAnyH_ready (rs := [12]) (by kernel_rfl) (by simp) ?_
      refine AllReadyH.cons rfl (fun KK hK => ?_) AllReadyH.nil
      simp only [zq1, zq2, zq3]
      rw [if_pos (by rfl)]
      go_simp
      clear hH
      refine hK.out _ _ ?_ (fun hH => ?_)
      ·exact ⟨(cw6 (by have := unhide S0; dsimp only; omega) bp0), (cw6 (by have := unhide S0; dsimp only; omega) bp1), (cw6 (by have := unhide S0; dsimp only; omega) bp2), (cw6 (by have := unhide S0; dsimp only; omega) bp3), (cw6 (by have := unhide S0; dsimp only; omega) bp4), (cw6 (by have := unhide S0; dsimp only; omega) bp5), (cw6 (by have := unhide S0; dsimp only; omega) bq0), (cw6 (by have := unhide S0; dsimp only; omega) bq1), (cw6 (by have := unhide S0; dsimp only; omega) bq2), (cw6 (by have := unhide S0; dsimp only; omega) bq3), (cw6 (by have := unhide S0; dsimp only; omega) bq4), (cw6 (by have := unhide S0; dsimp only; omega) bq5)⟩
      clear hK KK
      try simp only [Act.put, zq1, zq2, zq3, zq4, zq5, zq6]
      refine wpAnyH_done (by kernel_rfl) ?_ _
      clear hH mkA mkB mkf
      go_wp2_with fail
      go_meet
      exact ⟨_, _, _, rfl, choice_set kw X_0 X_1 X_2 X_3 X_4 X_5 rA rB (by omega) (by omega)⟩
    ·simp only [zq1, zq2, zq3]
     rw [if_pos (by rfl)]
     go_simp
     have kn := (Kept.refl 0 0 w6).alloc (.cells #[.bool false, .slice none 0 0, .int .i64 0, .bool false, .slice none 0 0, .int .i64 0] 38)
     replace r1 := r1.kp kn
     replace r2 := r2.kp kn
     replace r3 := r3.kp kn
     replace r4 := r4.kp kn
     replace rA := rA.kp kn
     replace kw := kw.trans kn
     replace Rf0 := kn.loose0 (zbl R0) Rf0
     replace Rf1 := kn.loose0 (zbl R1) Rf1
     replace Rf2 := kn.loose0 (zbl R2) Rf2
     replace Rf3 := kn.loose0 (zbl R3) Rf3
     replace Rf4 := kn.loose0 (zbl R4) Rf4
     replace Rf5 := kn.loose0 (zbl R5) Rf5
     replace bp0 := kn.cell0 bp0
     replace bp1 := kn.cell0 bp1
     replace bp2 := kn.cell0 bp2
     replace bp3 := kn.cell0 bp3
     replace bp4 := kn.cell0 bp4
     replace bp5 := kn.cell0 bp5
     replace bq0 := kn.cell0 bq0
     replace bq1 := kn.cell0 bq1
     replace bq2 := kn.cell0 bq2
     replace bq3 := kn.cell0 bq3
     replace bq4 := kn.cell0 bq4
     replace bq5 := kn.cell0 bq5
     replace R0 := kn.cell0 R0
     replace R1 := kn.cell0 R1
     replace R2 := kn.cell0 R2
     replace R3 := kn.cell0 R3
     replace R4 := kn.cell0 R4
     replace R5 := kn.cell0 R5
     replace K := hide ((unhide K).trans kn)
     have z9 := kn.size
     clear kn
     have szX : w6.heap.size < (w6.alloc (.cells #[.bool false, .slice none 0 0, .int .i64 0, .bool false, .slice none 0 0, .int .i64 0] 38)).heap.size := by simp
     have X_0 : (w6.alloc (.cells #[.bool false, .slice none 0 0, .int .i64 0, .bool false, .slice none 0 0, .int .i64 0] 38)).cell? ⟨w6.heap.size, 0, none⟩ = some (.bool false) := new_cell2 _ _ _ _ _ _ rfl rfl
     have X_f0 : (w6.alloc (.cells #[.bool false, .slice none 0 0, .int .i64 0, .bool false, .slice none 0 0, .int .i64 0] 38)).frozen? ⟨w6.heap.size, 0, none⟩ = false := new_loose2 _ _ _ _ _ rfl
     have X_1 : (w6.alloc (.cells #[.bool false, .slice none 0 0, .int .i64 0, .bool false, .slice none 0 0, .int .i64 0] 38)).cell? ⟨w6.heap.size, 1, none⟩ = some (.slice none 0 0) := new_cell2 _ _ _ _ _ _ rfl rfl
     have X_f1 : (w6.alloc (.cells #[.bool false, .slice none 0 0, .int .i64 0, .bool false, .slice none 0 0, .int .i64 0] 38)).frozen? ⟨w6.heap.size, 1, none⟩ = false := new_loose2 _ _ _ _ _ rfl
     have X_2 : (w6.alloc (.cells #[.bool false, .slice none 0 0, .int .i64 0, .bool false, .slice none 0 0, .int .i64 0] 38)).cell? ⟨w6.heap.size, 2, none⟩ = some (.int .i64 0) := new_cell2 _ _ _ _ _ _ rfl rfl
     have X_f2 : (w6.alloc (.cells #[.bool false, .slice none 0 0, .int .i64 0, .bool false, .slice none 0 0, .int .i64 0] 38)).frozen? ⟨w6.heap.size, 2, none⟩ = false := new_loose2 _ _ _ _ _ rfl
     have X_3 : (w6.alloc (.cells #[.bool false, .slice none 0 0, .int .i64 0, .bool false, .slice none 0 0, .int .i64 0] 38)).cell? ⟨w6.heap.size, 3, none⟩ = some (.bool false) := new_cell2 _ _ _ _ _ _ rfl rfl
     have X_f3 : (w6.alloc (.cells #[.bool false, .slice none 0 0, .int .i64 0, .bool false, .slice none 0 0, .int .i64 0] 38)).frozen? ⟨w6.heap.size, 3, none⟩ = false := new_loose2 _ _ _ _ _ rfl
     have X_4 : (w6.alloc (.cells #[.bool false, .slice none 0 0, .int .i64 0, .bool false, .slice none 0 0, .int .i64 0] 38)).cell? ⟨w6.heap.size, 4, none⟩ = some (.slice none 0 0) := new_cell2 _ _ _ _ _ _ rfl rfl
     have X_f4 : (w6.alloc (.cells #[.bool false, .slice none 0 0, .int .i64 0, .bool false, .slice none 0 0, .int .i64 0] 38)).frozen? ⟨w6.heap.size, 4, none⟩ = false := new_loose2 _ _ _ _ _ rfl
     have X_5 : (w6.alloc (.cells #[.bool false, .slice none 0 0, .int .i64 0, .bool false, .slice none 0 0, .int .i64 0] 38)).cell? ⟨w6.heap.size, 5, none⟩ = some (.int .i64 0) := new_cell2 _ _ _ _ _ _ rfl rfl
     have X_f5 : (w6.alloc (.cells #[.bool false, .slice none 0 0, .int .i64 0, .bool false, .slice none 0 0, .int .i64 0] 38)).frozen? ⟨w6.heap.size, 5, none⟩ = false := new_loose2 _ _ _ _ _ rfl
     clear hH
     refine hK.out _ _ ?_ (fun hH => ?_)
     ·exact ⟨bp0, bp1, bp2, bp3, bp4, bp5, bq0, bq1, bq2, bq3, bq4, bq5⟩
     clear hK KK
     try simp only [Act.put, zq1, zq2, zq3, zq4, zq5, zq6]
     generalize w6.alloc (.cells #[.bool false, .slice none 0 0, .int .i64 0, .bool false, .slice none 0 0, .int .i64 0] 38) = w8 at *
     refine wpAnyH_ready (rs := [9]) (by kernel_rfl) (by simp) ?_
     refine AllReadyH.cons rfl (fun KK hK => ?_) AllReadyH.nil
     ·simp only [zq1, zq2, zq3]
      rw [if_pos (by rfl)]
      refine wps2 17 (.tmp 22) (.tmp 24) _ rfl in_l7less (.agg #[.bool s2, .slice a2 l2.length d2, .int .i64 e2]) (.agg #[.bool s4, .slice a4 l4.length d4, .int .i64 e4]) rfl rfl (mkB _ (by omega) r2 r4) ?_
      rintro e w10 ⟨vB, rfl, rB, k10⟩
      refine ⟨_, rfl, ?_⟩
      replace r1 := r1.kp k10
      replace r2 := r2.kp k10
      replace r3 := r3.kp k10
      replace r4 := r4.kp k10
      replace rA := rA.kp k10
      replace kw := kw.trans k10
      replace Rf0 := k10.loose0 (zbl R0) Rf0
      replace Rf1 := k10.loose0 (zbl R1) Rf1
      replace Rf2 := k10.loose0 (zbl R2) Rf2
      replace Rf3 := k10.loose0 (zbl R3) Rf3
      replace Rf4 := k10.loose0 (zbl R4) Rf4
      replace Rf5 := k10.loose0 (zbl R5) Rf5
      replace X_f0 := k10.loose0 (zbl X_0) X_f0
      replace X_f1 := k10.loose0 (zbl X_1) X_f1
      replace X_f2 := k10.loose0 (zbl X_2) X_f2
      replace X_f3 := k10.loose0 (zbl X_3) X_f3
      replace X_f4 := k10.loose0 (zbl X_4) X_f4
      replace X_f5 := k10.loose0 (zbl X_5) X_f5
      replace bp0 := k10.cell0 bp0
      replace bp1 := k10.cell0 bp1
      replace bp2 := k10.cell0 bp2
      replace bp3 := k10.cell0 bp3
      replace bp4 := k10.cell0 bp4
      replace bp5 := k10.cell0 bp5
      replace bq0 := k10.cell0 bq0
      replace bq1 := k10.cell0 bq1
      replace bq2 := k10.cell0 bq2
      replace bq3 := k10.cell0 bq3
      replace bq4 := k10.cell0 bq4
      replace bq5 := k10.cell0 bq5
      replace R0 := k10.cell0 R0
      replace R1 := k10.cell0 R1
      replace R2 := k10.cell0 R2
      replace R3 := k10.cell0 R3
      replace R4 := k10.cell0 R4
      replace R5 := k10.cell0 R5
      replace X_0 := k10.cell0 X_0
      replace X_1 := k10.cell0 X_1
      replace X_2 := k10.cell0 X_2
      replace X_3 := k10.cell0 X_3
      replace X_4 := k10.cell0 X_4
      replace X_5 := k10.cell0 X_5
      replace K := hide ((unhide K).trans k10)
      have z11 := k10.size
      clear k10
      clear hH
      refine hK.out _ _ ?_ (fun hH => ?_)
      ·exact ⟨bp0, bp1, bp2, bp3, bp4, bp5, bq0, bq1, bq2, bq3, bq4, bq5⟩
      clear hK KK
      try simp only [Act.put, zq1, zq2, zq3, zq4, zq5, zq6]
      obtain ⟨aB, dB, hv⟩ := Row.form' rB
      subst hv
      refine wpAnyH_take (i := 10) (v := .agg #[.bool S1, .slice aA P1.length dA, .int .i64 E1, .bool S2, .slice aB P2.length dB, .int .i64 E2]) rfl (by kernel_rfl) (by kernel_rfl) (by kernel_rfl) (fun _ _ _ h => h) (Or.inl ⟨by rfl, ?_⟩) hH ?_
      ·intro wq hSw
       try dsimp only at hSw
       go_simp
      try simp only [Act.put, zq1, zq2, zq3, zq4, zq5, zq6]
      refine wpAnyH_ready (rs := [12]) (by kernel_rfl) (by simp) ?_
      refine AllReadyH.cons rfl (fun KK hK => ?_) AllReadyH.nil
      simp only [zq1, zq2, zq3]
      rw [if_pos (by rfl)]
      go_simp
      clear hH
      refine hK.out _ _ ?_ (fun hH => ?_)
      ·exact ⟨(cw6 (by have := unhide S0; dsimp only; omega) bp0), (cw6 (by have := unhide S0; dsimp only; omega) bp1), (cw6 (by have := unhide S0; dsimp only; omega) bp2), (cw6 (by have := unhide S0; dsimp only; omega) bp3), (cw6 (by have := unhide S0; dsimp only; omega) bp4), (cw6 (by have := unhide S0; dsimp only; omega) bp5), (cw6 (by have := unhide S0; dsimp only; omega) bq0), (cw6 (by have := unhide S0; dsimp only; omega) bq1), (cw6 (by have := unhide S0; dsimp only; omega) bq2), (cw6 (by have := unhide S0; dsimp only; omega) bq3), (cw6 (by have := unhide S0; dsimp only; omega) bq4), (cw6 (by have := unhide S0; dsimp only; omega) bq5)⟩
      clear hK KK
      try simp only [Act.put, zq1, zq2, zq3, zq4, zq5, zq6]
      refine wpAnyH_done (by kernel_rfl) ?_ _
      clear hH mkA mkB mkf
      go_wp2_with fail
      go_meet
      exact ⟨_, _, _, rfl, choice_set kw X_0 X_1 X_2 X_3 X_4 X_5 rA rB (by omega) (by omega)⟩
   ·simp only [zq1, zq2, zq3]
    rw [if_pos (by rfl)]
    go_simp
    have kn := (Kept.refl 0 0 wd).alloc (.cells #[.bool false, .slice none 0 0, .int .i64 0, .bool false, .slice none 0 0, .int .i64 0] 38)
    replace r1 := r1.kp kn
    replace r2 := r2.kp kn
    replace r3 := r3.kp kn
    replace r4 := r4.kp kn
    replace kw := kw.trans kn
    replace Rf0 := kn.loose0 (zbl R0) Rf0
    replace Rf1 := kn.loose0 (zbl R1) Rf1
    replace Rf2 := kn.loose0 (zbl R2) Rf2
    replace Rf3 := kn.loose0 (zbl R3) Rf3
    replace Rf4 := kn.loose0 (zbl R4) Rf4
    replace Rf5 := kn.loose0 (zbl R5) Rf5
    replace bp0 := kn.cell0 bp0
    replace bp1 := kn.cell0 bp1
    replace bp2 := kn.cell0 bp2
    replace bp3 := kn.cell0 bp3
    replace bp4 := kn.cell0 bp4
    replace bp5 := kn.cell0 bp5
    replace bq0 := kn.cell0 bq0
    replace bq1 := kn.cell0 bq1
    replace bq2 := kn.cell0 bq2
    replace bq3 := kn.cell0 bq3
    replace bq4 := kn.cell0 bq4
    replace bq5 := kn.cell0 bq5
    replace R0 := kn.cell0 R0
    replace R1 := kn.cell0 R1
    replace R2 := kn.cell0 R2
    replace R3 := kn.cell0 R3
    replace R4 := kn.cell0 R4
    replace R5 := kn.cell0 R5
    replace K := hide ((unhide K).trans kn)
    have z7 := kn.size
    clear kn
    have szX : wd.heap.size < (wd.alloc (.cells #[.bool false, .slice none 0 0, .int .i64 0, .bool false, .slice none 0 0, .int .i64 0] 38)).heap.size := by simp
    have X_0 : (wd.alloc (.cells #[.bool false, .slice none 0 0, .int .i64 0, .bool false, .slice none 0 0, .int .i64 0] 38)).cell? ⟨wd.heap.size, 0, none⟩ = some (.bool false) := new_cell2 _ _ _ _ _ _ rfl rfl
    have X_f0 : (wd.alloc (.cells #[.bool false, .slice none 0 0, .int .i64 0, .bool false, .slice none 0 0, .int .i64 0] 38)).frozen? ⟨wd.heap.size, 0, none⟩ = false := new_loose2 _ _ _ _ _ rfl
    have X_1 : (wd.alloc (.cells #[.bool false, .slice none 0 0, .int .i64 0, .bool false, .slice none 0 0, .int .i64 0] 38)).cell? ⟨wd.heap.size, 1, none⟩ = some (.slice none 0 0) := new_cell2 _ _ _ _ _ _ rfl rfl
    have X_f1 : (wd.alloc (.cells #[.bool false, .slice none 0 0, .int .i64 0, .bool false, .slice none 0 0, .int .i64 0] 38)).frozen? ⟨wd.heap.size, 1, none⟩ = false := new_loose2 _ _ _ _ _ rfl
    have X_2 : (wd.alloc (.cells #[.bool false, .slice none 0 0, .int .i64 0, .bool false, .slice none 0 0, .int .i64 0] 38)).cell? ⟨wd.heap.size, 2, none⟩ = some (.int .i64 0) := new_cell2 _ _ _ _ _ _ rfl rfl
    have X_f2 : (wd.alloc (.cells #[.bool false, .slice none 0 0, .int .i64 0, .bool false, .slice none 0 0, .int .i64 0] 38)).frozen? ⟨wd.heap.size, 2, none⟩ = false := new_loose2 _ _ _ _ _ rfl
    have X_3 : (wd.alloc (.cells #[.bool false, .slice none 0 0, .int .i64 0, .bool false, .slice none 0 0, .int .i64 0] 38)).cell? ⟨wd.heap.size, 3, none⟩ = some (.bool false) := new_cell2 _ _ _ _ _ _ rfl rfl
    have X_f3 : (wd.alloc (.cells #[.bool false, .slice none 0 0, .int .i64 0, .bool false, .slice none 0 0, .int .i64 0] 38)).frozen? ⟨wd.heap.size, 3, none⟩ = false := new_loose2 _ _ _ _ _ rfl
    have X_4 : (wd.alloc (.cells #[.bool false, .slice none 0 0, .int .i64 0, .bool false, .slice none 0 0, .int .i64 0] 38)).cell? ⟨wd.heap.size, 4, none⟩ = some (.slice none 0 0) := new_cell2 _ _ _ _ _ _ rfl rfl
    have X_f4 : (wd.alloc (.cells #[.bool false, .slice none 0 0, .int .i64 0, .bool false, .slice none 0 0, .int .i64 0] 38)).frozen? ⟨wd.heap.size, 4, none⟩ = false := new_loose2 _ _ _ _ _ rfl
    have X_5 : (wd.alloc (.cells #[.bool false, .slice none 0 0, .int .i64 0, .bool false, .slice none 0 0, .int .i64 0] 38)).cell? ⟨wd.heap.size, 5, none⟩ = some (.int .i64 0) := new_cell2 _ _ _ _ _ _ rfl rfl
    have X_f5 : (wd.alloc (.cells #[.bool false, .slice none 0 0, .int .i64 0, .bool false, .slice none 0 0, .int .i64 0] 38)).frozen? ⟨wd.heap.size, 5, none⟩ = false := new_loose2 _ _ _ _ _ rfl
    clear hH
    refine hK.out _ _ ?_ (fun hH => ?_)
    ·exact ⟨bp0, bp1, bp2, bp3, bp4, bp5, bq0, bq1, bq2, bq3, bq4, bq5⟩
    clear hK KK
    try simp only [Act.put, zq1, zq2, zq3, zq4, zq5, zq6]
    generalize wd.alloc (.cells #[.bool false, .slice none 0 0, .int .i64 0, .bool false, .slice none 0 0, .int .i64 0] 38) = w6 at *
    refine wpAnyH_ready (rs := [4]) (by kernel_rfl) (by simp) ?_
    refine AllReadyH.cons rfl (fun KK hK => ?_) AllReadyH.nil
    ·simp only [zq1, zq2, zq3]
     rw [if_pos (by rfl)]
     refine wps2 16 (.tmp 17) (.tmp 19) _ rfl in_l7more (.agg #[.bool s1, .slice a1 l1.length d1, .int .i64 e1]) (.agg #[.bool s3, .slice a3 l3.length d3, .int .i64 e3]) rfl rfl (mkA _ (by omega) r1 r3) ?_
     rintro e w8 ⟨vA, rfl, rA, k8⟩
     refine ⟨_, rfl, ?_⟩
     replace r1 := r1.kp k8
     replace r2 := r2.kp k8
     replace r3 := r3.kp k8
     replace r4 := r4.kp k8
     replace kw := kw.trans k8
     replace Rf0 := k8.loose0 (zbl R0) Rf0
     replace Rf1 := k8.loose0 (zbl R1) Rf1
     replace Rf2 := k8.loose0 (zbl R2) Rf2
     replace Rf3 := k8.loose0 (zbl R3) Rf3
     replace Rf4 := k8.loose0 (zbl R4) Rf4
     replace Rf5 := k8.loose0 (zbl R5) Rf5
     replace X_f0 := k8.loose0 (zbl X_0) X_f0
     replace X_f1 := k8.loose0 (zbl X_1) X_f1
     replace X_f2 := k8.loose0 (zbl X_2) X_f2
     replace X_f3 := k8.loose0 (zbl X_3) X_f3
     replace X_f4 := k8.loose0 (zbl X_4) X_f4
     replace X_f5 := k8.loose0 (zbl X_5) X_f5
     replace bp0 := k8.cell0 bp0
     replace bp1 := k8.cell0 bp1
     replace bp2 := k8.cell0 bp2
     replace bp3 := k8.cell0 bp3
     replace bp4 := k8.cell0 bp4
     replace bp5 := k8.cell0 bp5
     replace bq0 := k8.cell0 bq0
     replace bq1 := k8.cell0 bq1
     replace bq2 := k8.cell0 bq2
     replace bq3 := k8.cell0 bq3
     replace bq4 := k8.cell0 bq4
     replace bq5 := k8.cell0 bq5
     replace R0 := k8.cell0 R0
     replace R1 := k8.cell0 R1
     replace R2 := k8.cell0 R2
     replace R3 := k8.cell0 R3
     replace R4 := k8.cell0 R4
     replace R5 := k8.cell0 R5
     replace X_0 := k8.cell0 X_0
     replace X_1 := k8.cell0 X_1
     replace X_2 := k8.cell0 X_2
     replace X_3 := k8.cell0 X_3
     replace X_4 := k8.cell0 X_4
     replace X_5 := k8.cell0 X_5
     replace K := hide ((unhide K).trans k8)
     have z9 := k8.size
     clear k8
     clear hH
     refine hK.out _ _ ?_ (fun hH => ?_)
     ·exact ⟨bp0, bp1, bp2, bp3, bp4, bp5, bq0, bq1, bq2, bq3, bq4, bq5⟩
     clear hK KK
     try simp only [Act.put, zq1, zq2, zq3, zq4, zq5, zq6]
     obtain ⟨aA, dA, hv⟩ := Row.form' rA
     subst hv
     refine wpAnyH_ready (rs := [9]) (by kernel_rfl) (by simp) ?_
     refine AllReadyH.cons rfl (fun KK hK => ?_) AllReadyH.nil
     ·simp only [zq1, zq2, zq3]
      rw [if_pos (by rfl)]
      refine wps2 17 (.tmp 22) (.tmp 24) _ rfl in_l7less (.agg #[.bool s2, .slice a2 l2.length d2, .int .i64 e2]) (.agg #[.bool s4, .slice a4 l4.length d4, .int .i64 e4]) rfl rfl (mkB _ (by omega) r2 r4) ?_
      rintro e w10 ⟨vB, rfl, rB, k10⟩
      refine ⟨_, rfl, ?_⟩
      replace r1 := r1.kp k10
      replace r2 := r2.kp k10
      replace r3 := r3.kp k10
      replace r4 := r4.kp k10
      replace rA := rA.kp k10
      replace kw := kw.trans k10
      replace Rf0 := k10.loose0 (zbl R0) Rf0
      replace Rf1 := k10.loose0 (zbl R1) Rf1
      replace Rf2 := k10.loose0 (zbl R2) Rf2
      replace Rf3 := k10.loose0 (zbl R3) Rf3
      replace Rf4 := k10.loose0 (zbl R4) Rf4
      replace Rf5 := k10.loose0 (zbl R5) Rf5
      replace X_f0 := k10.loose0 (zbl X_0) X_f0
      replace X_f1 := k10.loose0 (zbl X_1) X_f1
      replace X_f2 := k10.loose0 (zbl X_2) X_f2
      replace X_f3 := k10.loose0 (zbl X_3) X_f3
      replace X_f4 := k10.loose0 (zbl X_4) X_f4
      replace X_f5 := k10.loose0 (zbl X_5) X_f5
      replace bp0 := k10.cell0 bp0
      replace bp1 := k10.cell0 bp1
      replace bp2 := k10.cell0 bp2
      replace bp3 := k10.cell0 bp3
      replace bp4 := k10.cell0 bp4
      replace bp5 := k10.cell0 bp5
      replace bq0 := k10.cell0 bq0
      replace bq1 := k10.cell0 bq1
      replace bq2 := k10.cell0 bq2
      replace bq3 := k10.cell0 bq3
      replace bq4 := k10.cell0 bq4
      replace bq5 := k10.cell0 bq5
      replace R0 := k10.cell0 R0
      replace R1 := k10.cell0 R1
      replace R2 := k10.cell0 R2
      replace R3 := k10.cell0 R3
      replace R4 := k10.cell0 R4
      replace R5 := k10.cell0 R5
      replace X_0 := k10.cell0 X_0
      replace X_1 := k10.cell0 X_1
      replace X_2 := k10.cell0 X_2
      replace X_3 := k10.cell0 X_3
      replace X_4 := k10.cell0 X_4
      replace X_5 := k10.cell0 X_5
      replace K := hide ((unhide K).trans k10)
      have z11 := k10.size
      clear k10
      clear hH
      refine hK.out _ _ ?_ (fun hH => ?_)
      ·exact ⟨bp0, bp1, bp2, bp3, bp4, bp5, bq0, bq1, bq2, bq3, bq4, bq5⟩
      clear hK KK
      try simp only [Act.put, zq1, zq2, zq3, zq4, zq5, zq6]
      obtain ⟨aB, dB, hv⟩ := Row.form' rB
      subst hv
      refine wpAnyH_take (i := 10) (v := .agg #[.bool S1, .slice aA P1.length dA, .int .i64 E1, .bool S2, .slice aB P2.length dB, .int .i64 E2]) rfl (by kernel_rfl) (by kernel_rfl) (by kernel_rfl) (fun _ _ _ h => h) (Or.inl ⟨by rfl, ?_⟩) hH ?_
      ·intro wq hSw
       try dsimp only at hSw
       go_simp
      try simp only [Act.put, zq1, zq2, zq3, zq4, zq5, zq6]
      refine wpAnyH_ready (rs := [12]) (by kernel_rfl) (by simp) ?_
      refine AllReadyH.cons rfl (fun KK hK => ?_) AllReadyH.nil
      simp only [zq1, zq2, zq3]
      rw [if_pos (by rfl)]
      go_simp
      clear hH
      refine hK.out _ _ ?_ (fun hH => ?_)
      ·exact ⟨(cw6 (by have := unhide S0; dsimp only; omega) bp0), (cw6 (by have := unhide S0; dsimp only; omega) bp1), (cw6 (by have := unhide S0; dsimp only; omega) bp2), (cw6 (by have := unhide S0; dsimp only; omega) bp3), (cw6 (by have := unhide S0; dsimp only; omega) bp4), (cw6 (by have := unhide S0; dsimp only; omega) bp5), (cw6 (by have := unhide S0; dsimp only; omega) bq0), (cw6 (by have := unhide S0; dsimp only; omega) bq1), (cw6 (by have := unhide S0; dsimp only; omega) bq2), (cw6 (by have := unhide S0; dsimp only; omega) bq3), (cw6 (by have := unhide S0; dsimp only; omega) bq4), (cw6 (by have := unhide S0; dsimp only; omega) bq5)⟩
      clear hK KK
      try simp only [Act.put, zq1, zq2, zq3, zq4, zq5, zq6]
      refine wpAnyH_done (by kernel_rfl) ?_ _
      clear hH mkA mkB mkf
      go_wp2_with fail
      go_meet
      exact ⟨_, _, _, rfl, choice_set kw X_0 X_1 X_2 X_3 X_4 X_5 rA rB (by omega) (by omega)⟩
  case rest =>
   obtain ⟨X, vA, vB, rfl, X_0, X_1, X_2, X_3, X_4, X_5, rA, rB, kk⟩ := hcut
   replace r1 := r1.kp kk
   replace r2 := r2.kp kk
   replace r3 := r3.kp kk
   replace r4 := r4.kp kk
   replace Rf0 := kk.loose0 (zbl R0) Rf0
   replace Rf1 := kk.loose0 (zbl R1) Rf1
   replace Rf2 := kk.loose0 (zbl R2) Rf2
   replace Rf3 := kk.loose0 (zbl R3) Rf3
   replace Rf4 := kk.loose0 (zbl R4) Rf4
   replace Rf5 := kk.loose0 (zbl R5) Rf5
   replace bp0 := kk.cell0 bp0
   replace bp1 := kk.cell0 bp1
   replace bp2 := kk.cell0 bp2
   replace bp3 := kk.cell0 bp3
   replace bp4 := kk.cell0 bp4
   replace bp5 := kk.cell0 bp5
   replace bq0 := kk.cell0 bq0
   replace bq1 := kk.cell0 bq1
   replace bq2 := kk.cell0 bq2
   replace bq3 := kk.cell0 bq3
   replace bq4 := kk.cell0 bq4
   replace bq5 := kk.cell0 bq5
   replace R0 := kk.cell0 R0
   replace R1 := kk.cell0 R1
   replace R2 := kk.cell0 R2
   replace R3 := kk.cell0 R3
   replace R4 := kk.cell0 R4
   replace R5 := kk.cell0 R5
   replace K := hide ((unhide K).trans kk)
   have z5 := kk.size
   clear kk mkA mkB
   obtain ⟨aA, dA, hv⟩ := Row.form' rA
   subst hv
   obtain ⟨aB, dB, hv⟩ := Row.form' rB
   subst hv
   generalize hwc : wc = we6 at *
   clear hwc
   go_wp2_with fail
   have mk := cmp4_ok S1 E1 gu1 gd1 S2 E2 gu2 gd2 we6 rA rB (unhide OP1) (unhide OP2)
   obtain ⟨C, hC⟩ : ∃ C, cmpD S1 P1 E1 S2 P2 E2 = C := ⟨_, rfl⟩
   rw [hC] at mk
   have HIO : Hid (iokB S1 P1 E1 S2 P2 E2 = decide (C ≤ 0)) := by show _ = _; unfold iokB; rw [unhide OP1, unhide OP2, hC]; rfl
   clear hC
   refine (mk).mono ?_
   rintro e w7 ⟨rfl, k7⟩
   replace r1 := r1.kp k7
   replace r2 := r2.kp k7
   replace r3 := r3.kp k7
   replace r4 := r4.kp k7
   replace rA := rA.kp k7
   replace rB := rB.kp k7
   replace Rf0 := k7.loose0 (zbl R0) Rf0
   replace Rf1 := k7.loose0 (zbl R1) Rf1
   replace Rf2 := k7.loose0 (zbl R2) Rf2
   replace Rf3 := k7.loose0 (zbl R3) Rf3
   replace Rf4 := k7.loose0 (zbl R4) Rf4
   replace Rf5 := k7.loose0 (zbl R5) Rf5
   replace bp0 := k7.cell0 bp0
   replace bp1 := k7.cell0 bp1
   replace bp2 := k7.cell0 bp2
   replace bp3 := k7.cell0 bp3
   replace bp4 := k7.cell0 bp4
   replace bp5 := k7.cell0 bp5
   replace bq0 := k7.cell0 bq0
   replace bq1 := k7.cell0 bq1
   replace bq2 := k7.cell0 bq2
   replace bq3 := k7.cell0 bq3
   replace bq4 := k7.cell0 bq4
   replace bq5 := k7.cell0 bq5
   replace R0 := k7.cell0 R0
   replace R1 := k7.cell0 R1
   replace R2 := k7.cell0 R2
   replace R3 := k7.cell0 R3
   replace R4 := k7.cell0 R4
   replace R5 := k7.cell0 R5
   replace X_0 := k7.cell0 X_0
   replace X_1 := k7.cell0 X_1
   replace X_2 := k7.cell0 X_2
   replace X_3 := k7.cell0 X_3
   replace X_4 := k7.cell0 X_4
   replace X_5 := k7.cell0 X_5
   replace K := hide ((unhide K).trans k7)
   have z8 := k7.size
   clear k7
   clear mk
   by_cases hh : 0 < C
   ·have hio : iokB S1 P1 E1 S2 P2 E2 = false := by rw [unhide HIO]; exact decide_eq_false (by omega)
    clear mkf
    have EC : Hid (CC = false) := by show _ = _; rw [← unhide HCC]; exact ivC_no (by rw [hio, Bool.and_false])
    have K7 := hide (((((((unhide K).setNew (p := ⟨w.heap.size + 2, 0, none⟩) (by simp) (.bool false)).setNew (p := ⟨w.heap.size + 2, 1, none⟩) (by simp) (.slice none 0 0)).setNew (p := ⟨w.heap.size + 2, 2, none⟩) (by simp) (.int .i64 0)).setNew (p := ⟨w.heap.size + 2, 3, none⟩) (by simp) (.bool false)).setNew (p := ⟨w.heap.size + 2, 4, none⟩) (by simp) (.slice none 0 0)).setNew (p := ⟨w.heap.size + 2, 5, none⟩) (by simp) (.int .i64 0))
    clear r1 r2 r3 r4 rA rB K
    go_wp2_with fail
    exact bodyPost_ret (v := .tuple #[.agg #[.bool false, .slice none 0 0, .int .i64 0, .bool false, .slice none 0 0, .int .i64 0], .bool false]) (by simp [results, Tryd.results6, go_sem, R0, R1, R2, R3, R4, R5]) rfl (by rw [unhide EC]; exact ivS_no (unhide K7))
   have hio : Hid (iokB S1 P1 E1 S2 P2 E2 = true) := by show _ = _; rw [unhide HIO]; exact decide_eq_true (by omega)
   go_wp2_with fail
   refine (mkf _ _ _ _ _ _ _ _ _ rA rB (unhide hio)).mono ?_
   rintro e w9 h5
   obtain ⟨q1, y1, M1, q2, y2, M2, vL, vM, rfl, rL, rM, k5, hq⟩ := ivS_open h5
   have HQ := hide hq
   clear hq h5
   replace r1 := r1.kp k5
   replace r2 := r2.kp k5
   replace r3 := r3.kp k5
   replace r4 := r4.kp k5
   replace rA := rA.kp k5
   replace rB := rB.kp k5
   replace Rf0 := k5.loose0 (zbl R0) Rf0
   replace Rf1 := k5.loose0 (zbl R1) Rf1
   replace Rf2 := k5.loose0 (zbl R2) Rf2
   replace Rf3 := k5.loose0 (zbl R3) Rf3
   replace Rf4 := k5.loose0 (zbl R4) Rf4
   replace Rf5 := k5.loose0 (zbl R5) Rf5
   replace bp0 := k5.cell0 bp0
   replace bp1 := k5.cell0 bp1
   replace bp2 := k5.cell0 bp2
   replace bp3 := k5.cell0 bp3
   replace bp4 := k5.cell0 bp4
   replace bp5 := k5.cell0 bp5
   replace bq0 := k5.cell0 bq0
   replace bq1 := k5.cell0 bq1
   replace bq2 := k5.cell0 bq2
   replace bq3 := k5.cell0 bq3
   replace bq4 := k5.cell0 bq4
   replace bq5 := k5.cell0 bq5
   replace R0 := k5.cell0 R0
   replace R1 := k5.cell0 R1
   replace R2 := k5.cell0 R2
   replace R3 := k5.cell0 R3
   replace R4 := k5.cell0 R4
   replace R5 := k5.cell0 R5
   replace X_0 := k5.cell0 X_0
   replace X_1 := k5.cell0 X_1
   replace X_2 := k5.cell0 X_2
   replace X_3 := k5.cell0 X_3
   replace X_4 := k5.cell0 X_4
   replace X_5 := k5.cell0 X_5
   replace K := hide ((unhide K).trans k5)
   have z10 := k5.size
   clear k5
   obtain ⟨aL, dL, hv⟩ := Row.form' rL
   subst hv
   obtain ⟨aM, dM, hv⟩ := Row.form' rM
   subst hv
   have RA := hide (((((((rL.set_other (p := ⟨w.heap.size + 2, 0, none⟩) (.inl (by have := unhide S0; dsimp only; omega)) (.bool q1)).set_other (p := ⟨w.heap.size + 2, 1, none⟩) (.inl (by have := unhide S0; dsimp only; omega)) (.slice aL M1.length dL)).set_other (p := ⟨w.heap.size + 2, 2, none⟩) (.inl (by have := unhide S0; dsimp only; omega)) (.int .i64 y1)).set_other (p := ⟨w.heap.size + 2, 3, none⟩) (.inl (by have := unhide S0; dsimp only; omega)) (.bool q2)).set_other (p := ⟨w.heap.size + 2, 4, none⟩) (.inl (by have := unhide S0; dsimp only; omega)) (.slice aM M2.length dM)).set_other (p := ⟨w.heap.size + 2, 5, none⟩) (.inl (by have := unhide S0; dsimp only; omega)) (.int .i64 y2)).tight.wider (lo' := w.heap.size) (by have := unhide S0; omega) (Nat.le_refl _))
   have RB := hide (((((((rM.set_other (p := ⟨w.heap.size + 2, 0, none⟩) (.inl (by have := unhide S0; dsimp only; omega)) (.bool q1)).set_other (p := ⟨w.heap.size + 2, 1, none⟩) (.inl (by have := unhide S0; dsimp only; omega)) (.slice aL M1.length dL)).set_other (p := ⟨w.heap.size + 2, 2, none⟩) (.inl (by have := unhide S0; dsimp only; omega)) (.int .i64 y1)).set_other (p := ⟨w.heap.size + 2, 3, none⟩) (.inl (by have := unhide S0; dsimp only; omega)) (.bool q2)).set_other (p := ⟨w.heap.size + 2, 4, none⟩) (.inl (by have := unhide S0; dsimp only; omega)) (.slice aM M2.length dM)).set_other (p := ⟨w.heap.size + 2, 5, none⟩) (.inl (by have := unhide S0; dsimp only; omega)) (.int .i64 y2)).tight.wider (lo' := w.heap.size) (by have := unhide S0; omega) (Nat.le_refl _))
   have K7 := hide (((((((unhide K).setNew (p := ⟨w.heap.size + 2, 0, none⟩) (by simp) (.bool q1)).setNew (p := ⟨w.heap.size + 2, 1, none⟩) (by simp) (.slice aL M1.length dL)).setNew (p := ⟨w.heap.size + 2, 2, none⟩) (by simp) (.int .i64 y1)).setNew (p := ⟨w.heap.size + 2, 3, none⟩) (by simp) (.bool q2)).setNew (p := ⟨w.heap.size + 2, 4, none⟩) (by simp) (.slice aM M2.length dM)).setNew (p := ⟨w.heap.size + 2, 5, none⟩) (by simp) (.int .i64 y2))
   clear r1 r2 r3 r4 rA rB rL rM K
   go_wp2_with fail
   exact bodyPost_ret (v := .tuple #[.agg #[.bool q1, .slice aL M1.length dL, .int .i64 y1, .bool q2, .slice aM M2.length dM, .int .i64 y2], .bool CC]) (by simp [results, Tryd.results6, go_sem, R0, R1, R2, R3, R4, R5]) rfl (ivS_shut (unhide HQ) (unhide RA) (unhide RB) (unhide K7))

set_option maxHeartbeats 8000000 in
theorem ivjoin_spec {b1 b2 b3 b4 : Bool} {w1l w1h w2l w2h w3l w3h w4l w4h : Nat} {v1 v2 v3 v4 : Value} {l1 l2 l3 l4 : List Int} (s1 : Bool) (e1 : Int) (hu1 : e1 ≤ 9223372036854775807) (hd1 : -9223372036854775808 ≤ e1) (s2 : Bool) (e2 : Int) (hu2 : e2 ≤ 9223372036854775807) (hd2 : -9223372036854775808 ≤ e2) (s3 : Bool) (e3 : Int) (hu3 : e3 ≤ 9223372036854775807) (hd3 : -9223372036854775808 ≤ e3) (s4 : Bool) (e4 : Int) (hu4 : e4 ≤ 9223372036854775807) (hd4 : -9223372036854775808 ≤ e4) (w : World) (r1 : Row .i64 b1 w1l w1h w v1 l1) (r2 : Row .i64 b2 w2l w2h w v2 l2) (r3 : Row .i64 b3 w3l w3h w v3 l3) (r4 : Row .i64 b4 w4l w4h w v4 l4) :
    Calls Tryd.prog 12 #[.agg #[.bool s1, v1, .int .i64 e1, .bool s2, v2, .int .i64 e2], .agg #[.bool s3, v3, .int .i64 e3, .bool s4, v4, .int .i64 e4]] w fun e w' => IvAnsS (ivC (iokB s1 l1 e1 s2 l2 e2 && iokB s3 l3 e3 s4 l4 e4) (wval (pk (mnB s1 l1 e1 s3 l3 e3) s1 s3) (pk (mnB s1 l1 e1 s3 l3 e3) l1 l3)) (pk (mnB s1 l1 e1 s3 l3 e3) e1 e3) (wval (pk (mxB s2 l2 e2 s4 l4 e4) s2 s4) (pk (mxB s2 l2 e2 s4 l4 e4) l2 l4)) (pk (mxB s2 l2 e2 s4 l4 e4) e2 e4)) (wsg (wval (pk (mnB s1 l1 e1 s3 l3 e3) s1 s3) (pk (mnB s1 l1 e1 s3 l3 e3) l1 l3))) (dex (wval (pk (mnB s1 l1 e1 s3 l3 e3) s1 s3) (pk (mnB s1 l1 e1 s3 l3 e3) l1 l3)) (pk (mnB s1 l1 e1 s3 l3 e3) e1 e3)) (dlm (wval (pk (mnB s1 l1 e1 s3 l3 e3) s1 s3) (pk (mnB s1 l1 e1 s3 l3 e3) l1 l3))) (wsg (wval (pk (mxB s2 l2 e2 s4 l4 e4) s2 s4) (pk (mxB s2 l2 e2 s4 l4 e4) l2 l4))) (dex (wval (pk (mxB s2 l2 e2 s4 l4 e4) s2 s4) (pk (mxB s2 l2 e2 s4 l4 e4) l2 l4)) (pk (mxB s2 l2 e2 s4 l4 e4) e2 e4)) (dlm (wval (pk (mxB s2 l2 e2 s4 l4 e4) s2 s4) (pk (mxB s2 l2 e2 s4 l4 e4) l2 l4))) w e w' := by
  replace r1 := r1.tight
  replace r2 := r2.tight
  replace r3 := r3.tight
  replace r4 := r4.tight
  obtain ⟨c1, hc1⟩ : ∃ c, (mnB s1 l1 e1 s3 l3 e3) = c := ⟨_, rfl⟩
  obtain ⟨c2, hc2⟩ : ∃ c, (mxB s2 l2 e2 s4 l4 e4) = c := ⟨_, rfl⟩
  rw [hc1, hc2]
  have HC1 := hide hc1
  have HC2 := hide hc2
  clear hc1 hc2
  obtain ⟨S1, hS1⟩ : ∃ y, pk c1 s1 s3 = y := ⟨_, rfl⟩
  obtain ⟨P1, hP1⟩ : ∃ y, pk c1 l1 l3 = y := ⟨_, rfl⟩
  obtain ⟨E1, hE1⟩ : ∃ y, pk c1 e1 e3 = y := ⟨_, rfl⟩
  obtain ⟨S2, hS2⟩ : ∃ y, pk c2 s2 s4 = y := ⟨_, rfl⟩
  obtain ⟨P2, hP2⟩ : ∃ y, pk c2 l2 l4 = y := ⟨_, rfl⟩
  obtain ⟨E2, hE2⟩ : ∃ y, pk c2 e2 e4 = y := ⟨_, rfl⟩
  rw [hS1, hP1, hE1, hS2, hP2, hE2]
  have HS1 := hide hS1
  clear hS1
  have HP1 := hide hP1
  clear hP1
  have HE1 := hide hE1
  clear hE1
  have HS2 := hide hS2
  clear hS2
  have HP2 := hide hP2
  clear hP2
  have HE2 := hide hE2
  clear hE2
  obtain ⟨CC, hCC⟩ : ∃ c, ivC (iokB s1 l1 e1 s2 l2 e2 && iokB s3 l3 e3 s4 l4 e4) (wval S1 P1) (E1) (wval S2 P2) (E2) = c := ⟨_, rfl⟩
  rw [hCC]
  have HCC := hide hCC
  clear hCC
  obtain ⟨W1, hW1⟩ : ∃ c, wsg (wval S1 P1) = c := ⟨_, rfl⟩
  obtain ⟨D1, hD1⟩ : ∃ c, dex (wval S1 P1) (E1) = c := ⟨_, rfl⟩
  obtain ⟨Q1, hQ1⟩ : ∃ c, dlm (wval S1 P1) = c := ⟨_, rfl⟩
  obtain ⟨W2, hW2⟩ : ∃ c, wsg (wval S2 P2) = c := ⟨_, rfl⟩
  obtain ⟨D2, hD2⟩ : ∃ c, dex (wval S2 P2) (E2) = c := ⟨_, rfl⟩
  obtain ⟨Q2, hQ2⟩ : ∃ c, dlm (wval S2 P2) = c := ⟨_, rfl⟩
  try rw [hW1]
  try rw [hD1]
  try rw [hQ1]
  try rw [hW2]
  try rw [hD2]
  try rw [hQ2]
  have HW1 := hide hW1
  clear hW1
  have HD1 := hide hD1
  clear hD1
  have HQ1 := hide hQ1
  clear hQ1
  have HW2 := hide hW2
  clear hW2
  have HD2 := hide hD2
  clear hD2
  have HQ2 := hide hQ2
  clear hQ2
  obtain ⟨Wn, hn0⟩ : ∃ wz, wz = (((w.alloc (.cells #[.bool s1, v1, .int .i64 e1, .bool s2, v2, .int .i64 e2] 38)).alloc (.cells #[.bool s3, v3, .int .i64 e3, .bool s4, v4, .int .i64 e4] 38)).alloc (.cells #[.bool false, .slice none 0 0, .int .i64 0, .bool false, .slice none 0 0, .int .i64 0] 38)) := ⟨_, rfl⟩
  have k0 : Kept 0 0 w Wn := by rw [hn0]; exact ((((Kept.refl 0 0 w).alloc _).alloc _).alloc _)
  have bp0 : Wn.cell? ⟨w.heap.size, 0, none⟩ = some (.bool s1) := by rw [hn0]; exact old_cell _ (old_cell _ (new_cell2 _ _ _ _ _ _ (by simp) rfl))
  have bp1 : Wn.cell? ⟨w.heap.size, 1, none⟩ = some (v1) := by rw [hn0]; exact old_cell _ (old_cell _ (new_cell2 _ _ _ _ _ _ (by simp) rfl))
  have bp2 : Wn.cell? ⟨w.heap.size, 2, none⟩ = some (.int .i64 e1) := by rw [hn0]; exact old_cell _ (old_cell _ (new_cell2 _ _ _ _ _ _ (by simp) rfl))
  have bp3 : Wn.cell? ⟨w.heap.size, 3, none⟩ = some (.bool s2) := by rw [hn0]; exact old_cell _ (old_cell _ (new_cell2 _ _ _ _ _ _ (by simp) rfl))
  have bp4 : Wn.cell? ⟨w.heap.size, 4, none⟩ = some (v2) := by rw [hn0]; exact old_cell _ (old_cell _ (new_cell2 _ _ _ _ _ _ (by simp) rfl))
  have bp5 : Wn.cell? ⟨w.heap.size, 5, none⟩ = some (.int .i64 e2) := by rw [hn0]; exact old_cell _ (old_cell _ (new_cell2 _ _ _ _ _ _ (by simp) rfl))
  have bq0 : Wn.cell? ⟨w.heap.size + 1, 0, none⟩ = some (.bool s3) := by rw [hn0]; exact old_cell _ (new_cell2 _ _ _ _ _ _ (by simp) rfl)
  have bq1 : Wn.cell? ⟨w.heap.size + 1, 1, none⟩ = some (v3) := by rw [hn0]; exact old_cell _ (new_cell2 _ _ _ _ _ _ (by simp) rfl)
  have bq2 : Wn.cell? ⟨w.heap.size + 1, 2, none⟩ = some (.int .i64 e3) := by rw [hn0]; exact old_cell _ (new_cell2 _ _ _ _ _ _ (by simp) rfl)
  have bq3 : Wn.cell? ⟨w.heap.size + 1, 3, none⟩ = some (.bool s4) := by rw [hn0]; exact old_cell _ (new_cell2 _ _ _ _ _ _ (by simp) rfl)
  have bq4 : Wn.cell? ⟨w.heap.size + 1, 4, none⟩ = some (v4) := by rw [hn0]; exact old_cell _ (new_cell2 _ _ _ _ _ _ (by simp) rfl)
  have bq5 : Wn.cell? ⟨w.heap.size + 1, 5, none⟩ = some (.int .i64 e4) := by rw [hn0]; exact old_cell _ (new_cell2 _ _ _ _ _ _ (by simp) rfl)
  have R0 : Wn.cell? ⟨w.heap.size + 2, 0, none⟩ = some (.bool false) := by rw [hn0]; exact new_cell2 _ _ _ _ _ _ (by simp) rfl
  have Rf0 : Wn.frozen? ⟨w.heap.size + 2, 0, none⟩ = false := by rw [hn0]; exact new_loose2 _ _ _ _ _ (by simp)
  have R1 : Wn.cell? ⟨w.heap.size + 2, 1, none⟩ = some (.slice none 0 0) := by rw [hn0]; exact new_cell2 _ _ _ _ _ _ (by simp) rfl
  have Rf1 : Wn.frozen? ⟨w.heap.size + 2, 1, none⟩ = false := by rw [hn0]; exact new_loose2 _ _ _ _ _ (by simp)
  have R2 : Wn.cell? ⟨w.heap.size + 2, 2, none⟩ = some (.int .i64 0) := by rw [hn0]; exact new_cell2 _ _ _ _ _ _ (by simp) rfl
  have Rf2 : Wn.frozen? ⟨w.heap.size + 2, 2, none⟩ = false := by rw [hn0]; exact new_loose2 _ _ _ _ _ (by simp)
  have R3 : Wn.cell? ⟨w.heap.size + 2, 3, none⟩ = some (.bool false) := by rw [hn0]; exact new_cell2 _ _ _ _ _ _ (by simp) rfl
  have Rf3 : Wn.frozen? ⟨w.heap.size + 2, 3, none⟩ = false := by rw [hn0]; exact new_loose2 _ _ _ _ _ (by simp)
  have R4 : Wn.cell? ⟨w.heap.size + 2, 4, none⟩ = some (.slice none 0 0) := by rw [hn0]; exact new_cell2 _ _ _ _ _ _ (by simp) rfl
  have Rf4 : Wn.frozen? ⟨w.heap.size + 2, 4, none⟩ = false := by rw [hn0]; exact new_loose2 _ _ _ _ _ (by simp)
  have R5 : Wn.cell? ⟨w.heap.size + 2, 5, none⟩ = some (.int .i64 0) := by rw [hn0]; exact new_cell2 _ _ _ _ _ _ (by simp) rfl
  have Rf5 : Wn.frozen? ⟨w.heap.size + 2, 5, none⟩ = false := by rw [hn0]; exact new_loose2 _ _ _ _ _ (by simp)
  subst hn0
  replace r1 := r1.kept k0 (by omega)
  replace r2 := r2.kept k0 (by omega)
  replace r3 := r3.kept k0 (by omega)
  replace r4 := r4.kept k0 (by omega)
  have s0 : (((w.alloc (.cells #[.bool s1, v1, .int .i64 e1, .bool s2, v2, .int .i64 e2] 38)).alloc (.cells #[.bool s3, v3, .int .i64 e3, .bool s4, v4, .int .i64 e4] 38)).alloc (.cells #[.bool false, .slice none 0 0, .int .i64 0, .bool false, .slice none 0 0, .int .i64 0] 38)).heap.size = w.heap.size + 3 := by simp
  obtain ⟨a1, d1, hv⟩ := Row.form' r1
  subst hv
  obtain ⟨a2, d2, hv⟩ := Row.form' r2
  subst hv
  obtain ⟨a3, d3, hv⟩ := Row.form' r3
  subst hv
  obtain ⟨a4, d4, hv⟩ := Row.form' r4
  subst hv
  have K := hide (k0)
  clear k0
  have S0 := hide s0
  clear s0
  go_enter Tryd.func12, Tryd.ntmps12
  go_wp2_with fail
  generalize (((w.alloc (.cells #[.bool s1, .slice a1 l1.length d1, .int .i64 e1, .bool s2, .slice a2 l2.length d2, .int .i64 e2] 38)).alloc (.cells #[.bool s3, .slice a3 l3.length d3, .int .i64 e3, .bool s4, .slice a4 l4.length d4, .int .i64 e4] 38)).alloc (.cells #[.bool false, .slice none 0 0, .int .i64 0, .bool false, .slice none 0 0, .int .i64 0] 38)) = W at *
  have sS1 : w.heap.size + 3 ≤ W.heap.size := by have := unhide S0; omega
  refine (ivok_spec s1 e1 hu1 hd1 s2 e2 hu2 hd2 _ r1 r2).mono ?_
  rintro e w1 ⟨rfl, k1⟩
  replace r1 := r1.kp k1
  replace r2 := r2.kp k1
  replace r3 := r3.kp k1
  replace r4 := r4.kp k1
  replace Rf0 := k1.loose0 (zbl R0) Rf0
  replace Rf1 := k1.loose0 (zbl R1) Rf1
  replace Rf2 := k1.loose0 (zbl R2) Rf2
  replace Rf3 := k1.loose0 (zbl R3) Rf3
  replace Rf4 := k1.loose0 (zbl R4) Rf4
  replace Rf5 := k1.loose0 (zbl R5) Rf5
  replace bp0 := k1.cell0 bp0
  replace bp1 := k1.cell0 bp1
  replace bp2 := k1.cell0 bp2
  replace bp3 := k1.cell0 bp3
  replace bp4 := k1.cell0 bp4
  replace bp5 := k1.cell0 bp5
  replace bq0 := k1.cell0 bq0
  replace bq1 := k1.cell0 bq1
  replace bq2 := k1.cell0 bq2
  replace bq3 := k1.cell0 bq3
  replace bq4 := k1.cell0 bq4
  replace bq5 := k1.cell0 bq5
  replace R0 := k1.cell0 R0
  replace R1 := k1.cell0 R1
  replace R2 := k1.cell0 R2
  replace R3 := k1.cell0 R3
  replace R4 := k1.cell0 R4
  replace R5 := k1.cell0 R5
  replace K := hide ((unhide K).trans k1)
  have z2 := k1.size
  clear k1
  cases ho : iokB s1 l1 e1 s2 l2 e2
  ·have EC : Hid (CC = false) := by show _ = _; rw [← unhide HCC]; exact ivC_no (by rw [ho]; rfl)
   have K7 := hide (((((((unhide K).setNew (p := ⟨w.heap.size + 2, 0, none⟩) (by simp) (.bool false)).setNew (p := ⟨w.heap.size + 2, 1, none⟩) (by simp) (.slice none 0 0)).setNew (p := ⟨w.heap.size + 2, 2, none⟩) (by simp) (.int .i64 0)).setNew (p := ⟨w.heap.size + 2, 3, none⟩) (by simp) (.bool false)).setNew (p := ⟨w.heap.size + 2, 4, none⟩) (by simp) (.slice none 0 0)).setNew (p := ⟨w.heap.size + 2, 5, none⟩) (by simp) (.int .i64 0))
   clear r1 r2 r3 r4 K
   go_wp2_with fail
   exact bodyPost_ret (v := .tuple #[.agg #[.bool false, .slice none 0 0, .int .i64 0, .bool false, .slice none 0 0, .int .i64 0], .bool false]) (by simp [results, Tryd.results12, go_sem, R0, R1, R2, R3, R4, R5]) rfl (by rw [unhide EC]; exact ivS_no (unhide K7))
  obtain ⟨i1, i2, -⟩ := iok_parts ho
  have I1 := hide i1
  have I2 := hide i2
  have HO := hide ho
  clear ho i1 i2
  go_wp2_with fail
  refine (ivok_spec s3 e3 hu3 hd3 s4 e4 hu4 hd4 _ r3 r4).mono ?_
  rintro e w3 ⟨rfl, k3⟩
  replace r1 := r1.kp k3
  replace r2 := r2.kp k3
  replace r3 := r3.kp k3
  replace r4 := r4.kp k3
  replace Rf0 := k3.loose0 (zbl R0) Rf0
  replace Rf1 := k3.loose0 (zbl R1) Rf1
  replace Rf2 := k3.loose0 (zbl R2) Rf2
  replace Rf3 := k3.loose0 (zbl R3) Rf3
  replace Rf4 := k3.loose0 (zbl R4) Rf4
  replace Rf5 := k3.loose0 (zbl R5) Rf5
  replace bp0 := k3.cell0 bp0
  replace bp1 := k3.cell0 bp1
  replace bp2 := k3.cell0 bp2
  replace bp3 := k3.cell0 bp3
  replace bp4 := k3.cell0 bp4
  replace bp5 := k3.cell0 bp5
  replace bq0 := k3.cell0 bq0
  replace bq1 := k3.cell0 bq1
  replace bq2 := k3.cell0 bq2
  replace bq3 := k3.cell0 bq3
  replace bq4 := k3.cell0 bq4
  replace bq5 := k3.cell0 bq5
  replace R0 := k3.cell0 R0
  replace R1 := k3.cell0 R1
  replace R2 := k3.cell0 R2
  replace R3 := k3.cell0 R3
  replace R4 := k3.cell0 R4
  replace R5 := k3.cell0 R5
  replace K := hide ((unhide K).trans k3)
  have z4 := k3.size
  clear k3
  cases ho : iokB s3 l3 e3 s4 l4 e4
  ·have EC : Hid (CC = false) := by show _ = _; rw [← unhide HCC]; exact ivC_no (by rw [ho, unhide HO]; rfl)
   have K7 := hide (((((((unhide K).setNew (p := ⟨w.heap.size + 2, 0, none⟩) (by simp) (.bool false)).setNew (p := ⟨w.heap.size + 2, 1, none⟩) (by simp) (.slice none 0 0)).setNew (p := ⟨w.heap.size + 2, 2, none⟩) (by simp) (.int .i64 0)).setNew (p := ⟨w.heap.size + 2, 3, none⟩) (by simp) (.bool false)).setNew (p := ⟨w.heap.size + 2, 4, none⟩) (by simp) (.slice none 0 0)).setNew (p := ⟨w.heap.size + 2, 5, none⟩) (by simp) (.int .i64 0))
   clear r1 r2 r3 r4 K
   go_wp2_with fail
   exact bodyPost_ret (v := .tuple #[.agg #[.bool false, .slice none 0 0, .int .i64 0, .bool false, .slice none 0 0, .int .i64 0], .bool false]) (by simp [results, Tryd.results12, go_sem, R0, R1, R2, R3, R4, R5]) rfl (by rw [unhide EC]; exact ivS_no (unhide K7))
  obtain ⟨i3, i4, -⟩ := iok_parts ho
  have I3 := hide i3
  have I4 := hide i4
  have HO2 := hide ho
  clear ho i3 i4
  have OP1 : Hid (dokB S1 P1 E1 = true) := by show _ = _; rw [← unhide HS1, ← unhide HP1, ← unhide HE1]; exact dok_pk _ (unhide I1) (unhide I3)
  have gu1 : E1 ≤ 9223372036854775807 := by rw [← unhide HE1]; exact pk_le _ hu1 hu3
  have gd1 : -9223372036854775808 ≤ E1 := by rw [← unhide HE1]; exact pk_ge _ hd1 hd3
  have OP2 : Hid (dokB S2 P2 E2 = true) := by show _ = _; rw [← unhide HS2, ← unhide HP2, ← unhide HE2]; exact dok_pk _ (unhide I2) (unhide I4)
  have gu2 : E2 ≤ 9223372036854775807 := by rw [← unhide HE2]; exact pk_le _ hu2 hu4
  have gd2 : -9223372036854775808 ≤ E2 := by rw [← unhide HE2]; exact pk_ge _ hd2 hd4
  have mkA := fun w' q3' r1' r2' => less7_spec (b1 := b1) (w1l := w1l) (w1h := w.heap.size) (b2 := b3) (w2l := w3l) (w2h := w.heap.size) (v1 := .slice a1 l1.length d1) (v2 := .slice a3 l3.length d3) (l1 := l1) (l2 := l3) s1 e1 hu1 hd1 s3 e3 hu3 hd3 w' r1' r2' (H := w.heap.size) (Nat.le_refl _) (Nat.le_refl _) q3' (unhide I1) (unhide I3)
  rw [unhide HC1, unhide HS1, unhide HP1, unhide HE1] at mkA
  have mkB := fun w' q3' r1' r2' => more7_spec (b1 := b2) (w1l := w2l) (w1h := w.heap.size) (b2 := b4) (w2l := w4l) (w2h := w.heap.size) (v1 := .slice a2 l2.length d2) (v2 := .slice a4 l4.length d4) (l1 := l2) (l2 := l4) s2 e2 hu2 hd2 s4 e4 hu4 hd4 w' r1' r2' (H := w.heap.size) (Nat.le_refl _) (Nat.le_refl _) q3' (unhide I2) (unhide I4)
  rw [unhide HC2, unhide HS2, unhide HP2, unhide HE2] at mkB
  have mkf : ∀ w' vA vB lo' hi' lo'' hi'' b' b'', Row .i64 b' lo' hi' w' vA P1 → Row .i64 b'' lo'' hi'' w' vB P2 → Calls Tryd.prog 19 #[.agg #[.bool S1, vA, .int .i64 E1, .bool S2, vB, .int .i64 E2]] w' fun e w'' => IvAnsS CC W1 D1 Q1 W2 D2 Q2 w' e w'' := fun w' vA vB lo' hi' lo'' hi'' b' b'' rA' rB' => by
   have mk := fits7_spec S1 E1 gu1 gd1 S2 E2 gu2 gd2 w' rA' rB'
   obtain ⟨f1, f2, f3⟩ := d_back (unhide OP1)
   obtain ⟨g1, g2, g3⟩ := d_back (unhide OP2)
   have hcc := unhide HCC
   unfold ivC at hcc
   rw [f1, f2, f3, g1, g2, g3, unhide HO, unhide HO2] at hcc
   simp only [Bool.true_and] at hcc
   rw [hcc] at mk
   refine mk.mono (fun e w' h => ?_)
   rw [← unhide HW1, ← unhide HD1, ← unhide HQ1, ← unhide HW2, ← unhide HD2, ← unhide HQ2, f1, f2, f3, g1, g2, g3]
   exact h
  go_wp2_with fail
  have kd := (Kept.refl 0 0 w3).drew
  replace r1 := r1.kp kd
  replace r2 := r2.kp kd
  replace r3 := r3.kp kd
  replace r4 := r4.kp kd
  replace Rf0 := kd.loose0 (zbl R0) Rf0
  replace Rf1 := kd.loose0 (zbl R1) Rf1
  replace Rf2 := kd.loose0 (zbl R2) Rf2
  replace Rf3 := kd.loose0 (zbl R3) Rf3
  replace Rf4 := kd.loose0 (zbl R4) Rf4
  replace Rf5 := kd.loose0 (zbl R5) Rf5
  replace bp0 := kd.cell0 bp0
  replace bp1 := kd.cell0 bp1
  replace bp2 := kd.cell0 bp2
  replace bp3 := kd.cell0 bp3
  replace bp4 := kd.cell0 bp4
  replace bp5 := kd.cell0 bp5
  replace bq0 := kd.cell0 bq0
  replace bq1 := kd.cell0 bq1
  replace bq2 := kd.cell0 bq2
  replace bq3 := kd.cell0 bq3
  replace bq4 := kd.cell0 bq4
  replace bq5 := kd.cell0 bq5
  replace R0 := kd.cell0 R0
  replace R1 := kd.cell0 R1
  replace R2 := kd.cell0 R2
  replace R3 := kd.cell0 R3
  replace R4 := kd.cell0 R4
  replace R5 := kd.cell0 R5
  replace K := hide ((unhide K).trans kd)
  have z5 := kd.size
  clear kd
  refine wp_region_held_drew (S := (fun w' => w'.cell? ⟨w.heap.size, 0, none⟩ = some (.bool s1) ∧ w'.cell? ⟨w.heap.size, 1, none⟩ = some (.slice a1 l1.length d1) ∧ w'.cell? ⟨w.heap.size, 2, none⟩ = some (.int .i64 e1) ∧ w'.cell? ⟨w.heap.size, 3, none⟩ = some (.bool s2) ∧ w'.cell? ⟨w.heap.size, 4, none⟩ = some (.slice a2 l2.length d2) ∧ w'.cell? ⟨w.heap.size, 5, none⟩ = some (.int .i64 e2) ∧ w'.cell? ⟨w.heap.size + 1, 0, none⟩ = some (.bool s3) ∧ w'.cell? ⟨w.heap.size + 1, 1, none⟩ = some (.slice a3 l3.length d3) ∧ w'.cell? ⟨w.heap.size + 1, 2, none⟩ = some (.int .i64 e3) ∧ w'.cell? ⟨w.heap.size + 1, 3, none⟩ = some (.bool s4) ∧ w'.cell? ⟨w.heap.size + 1, 4, none⟩ = some (.slice a4 l4.length d4) ∧ w'.cell? ⟨w.heap.size + 1, 5, none⟩ = some (.int .i64 e4))) (by kernel_rfl) ?_ (fun hH => ?_)
  ·exact ⟨bp0, bp1, bp2, bp3, bp4, bp5, bq0, bq1, bq2, bq3, bq4, bq5⟩
  refine wpAnyH_take (i := 0) (v := .pointer (some ⟨w.heap.size, 0, none⟩)) rfl (by kernel_rfl) (by kernel_rfl) (by kernel_rfl) (fun _ _ _ h => h) (Or.inl ⟨by rfl, ?_⟩) hH ?_
  ·intro wq hSw
   try dsimp only at hSw
   go_simp
  try simp only [Act.put, zq1, zq2, zq3, zq4, zq5, zq6]
  refine wpAnyH_take (i := 1) (v := .agg #[.bool s1, .slice a1 l1.length d1, .int .i64 e1]) rfl (by kernel_rfl) (by kernel_rfl) (by kernel_rfl) (fun _ _ _ h => h) (Or.inl ⟨by rfl, ?_⟩) hH ?_
  ·intro wq hSw
   try dsimp only at hSw
   go_simp
  try simp only [Act.put, zq1, zq2, zq3, zq4, zq5, zq6]
  refine wpAnyH_take (i := 2) (v := .pointer (some ⟨w.heap.size + 1, 0, none⟩)) rfl (by kernel_rfl) (by kernel_rfl) (by kernel_rfl) (fun _ _ _ h => h) (Or.inl ⟨by rfl, ?_⟩) hH ?_
  ·intro wq hSw
   try dsimp only at hSw
   go_simp
  try simp only [Act.put, zq1, zq2, zq3, zq4, zq5, zq6]
  refine wpAnyH_take (i := 3) (v := .agg #[.bool s3, .slice a3 l3.length d3, .int .i64 e3]) rfl (by kernel_rfl) (by kernel_rfl) (by kernel_rfl) (fun _ _ _ h => h) (Or.inl ⟨by rfl, ?_⟩) hH ?_
  ·intro wq hSw
   try dsimp only at hSw
   go_simp
  try simp only [Act.put, zq1, zq2, zq3, zq4, zq5, zq6]
  refine wpAnyH_take (i := 5) (v := .pointer (some ⟨w.heap.size, 3, none⟩)) rfl (by kernel_rfl) (by kernel_rfl) (by kernel_rfl) (fun _ _ _ h => h) (Or.inl ⟨by rfl, ?_⟩) hH ?_
  ·intro wq hSw
   try dsimp only at hSw
   go_simp
  try simp only [Act.put, zq1, zq2, zq3, zq4, zq5, zq6]
  refine wpAnyH_take (i := 6) (v := .agg #[.bool s2, .slice a2 l2.length d2, .int .i64 e2]) rfl (by kernel_rfl) (by kernel_rfl) (by kernel_rfl) (fun _ _ _ h => h) (Or.inl ⟨by rfl, ?_⟩) hH ?_
  ·intro wq hSw
   try dsimp only at hSw
   go_simp
  try simp only [Act.put, zq1, zq2, zq3, zq4, zq5, zq6]
  refine wpAnyH_take (i := 7) (v := .pointer (some ⟨w.heap.size + 1, 3, none⟩)) rfl (by kernel_rfl) (by kernel_rfl) (by kernel_rfl) (fun _ _ _ h => h) (Or.inl ⟨by rfl, ?_⟩) hH ?_
  ·intro wq hSw
   try dsimp only at hSw
   go_simp
  try simp only [Act.put, zq1, zq2, zq3, zq4, zq5, zq6]
  refine wpAnyH_take (i := 8) (v := .agg #[.bool s4, .slice a4 l4.length d4, .int .i64 e4]) rfl (by kernel_rfl) (by kernel_rfl) (by kernel_rfl) (fun _ _ _ h => h) (Or.inl ⟨by rfl, ?_⟩) hH ?_
  ·intro wq hSw
   try dsimp only at hSw
   go_simp
  try simp only [Act.put, zq1, zq2, zq3, zq4, zq5, zq6]
  refine wpAnyH_ready (rs := [4]) (by kernel_rfl) (by simp) ?_
  refine AllReadyH.cons rfl (fun KK hK => ?_) AllReadyH.nil
  simp only [zq1, zq2, zq3]
  rw [if_pos (by rfl)]
  refine wps2 17 (.tmp 16) (.tmp 18) _ rfl in_l7less (.agg #[.bool s1, .slice a1 l1.length d1, .int .i64 e1]) (.agg #[.bool s3, .slice a3 l3.length d3, .int .i64 e3]) rfl rfl (mkA _ (by omega) r1 r3) ?_
  rintro e w6 ⟨vA, rfl, rA, k6⟩
  refine ⟨_, rfl, ?_⟩
  replace r1 := r1.kp k6
  replace r2 := r2.kp k6
  replace r3 := r3.kp k6
  replace r4 := r4.kp k6
  replace Rf0 := k6.loose0 (zbl R0) Rf0
  replace Rf1 := k6.loose0 (zbl R1) Rf1
  replace Rf2 := k6.loose0 (zbl R2) Rf2
  replace Rf3 := k6.loose0 (zbl R3) Rf3
  replace Rf4 := k6.loose0 (zbl R4) Rf4
  replace Rf5 := k6.loose0 (zbl R5) Rf5
  replace bp0 := k6.cell0 bp0
  replace bp1 := k6.cell0 bp1
  replace bp2 := k6.cell0 bp2
  replace bp3 := k6.cell0 bp3
  replace bp4 := k6.cell0 bp4
  replace bp5 := k6.cell0 bp5
  replace bq0 := k6.cell0 bq0
  replace bq1 := k6.cell0 bq1
  replace bq2 := k6.cell0 bq2
  replace bq3 := k6.cell0 bq3
  replace bq4 := k6.cell0 bq4
  replace bq5 := k6.cell0 bq5
  replace R0 := k6.cell0 R0
  replace R1 := k6.cell0 R1
  replace R2 := k6.cell0 R2
  replace R3 := k6.cell0 R3
  replace R4 := k6.cell0 R4
  replace R5 := k6.cell0 R5
  replace K := hide ((unhide K).trans k6)
  have z7 := k6.size
  clear k6
  clear hH
  refine hK.out _ _ ?_ (fun hH => ?_)
  ·exact ⟨bp0, bp1, bp2, bp3, bp4, bp5, bq0, bq1, bq2, bq3, bq4, bq5⟩
  clear hK KK
  try simp only [Act.put, zq1, zq2, zq3, zq4, zq5, zq6]
  obtain ⟨aA, dA, hv⟩ := Row.form' rA
  subst hv
  refine wpAnyH_ready (rs := [9]) (by kernel_rfl) (by simp) ?_
  refine AllReadyH.cons rfl (fun KK hK => ?_) AllReadyH.nil
  simp only [zq1, zq2, zq3]
  rw [if_pos (by rfl)]
  refine wps2 16 (.tmp 21) (.tmp 23) _ rfl in_l7more (.agg #[.bool s2, .slice a2 l2.length d2, .int .i64 e2]) (.agg #[.bool s4, .slice a4 l4.length d4, .int .i64 e4]) rfl rfl (mkB _ (by omega) r2 r4) ?_
  rintro e w8 ⟨vB, rfl, rB, k8⟩
  refine ⟨_, rfl, ?_⟩
  replace r1 := r1.kp k8
  replace r2 := r2.kp k8
  replace r3 := r3.kp k8
  replace r4 := r4.kp k8
  replace rA := rA.kp k8
  replace Rf0 := k8.loose0 (zbl R0) Rf0
  replace Rf1 := k8.loose0 (zbl R1) Rf1
  replace Rf2 := k8.loose0 (zbl R2) Rf2
  replace Rf3 := k8.loose0 (zbl R3) Rf3
  replace Rf4 := k8.loose0 (zbl R4) Rf4
  replace Rf5 := k8.loose0 (zbl R5) Rf5
  replace bp0 := k8.cell0 bp0
  replace bp1 := k8.cell0 bp1
  replace bp2 := k8.cell0 bp2
  replace bp3 := k8.cell0 bp3
  replace bp4 := k8.cell0 bp4
  replace bp5 := k8.cell0 bp5
  replace bq0 := k8.cell0 bq0
  replace bq1 := k8.cell0 bq1
  replace bq2 := k8.cell0 bq2
  replace bq3 := k8.cell0 bq3
  replace bq4 := k8.cell0 bq4
  replace bq5 := k8.cell0 bq5
  replace R0 := k8.cell0 R0
  replace R1 := k8.cell0 R1
  replace R2 := k8.cell0 R2
  replace R3 := k8.cell0 R3
  replace R4 := k8.cell0 R4
  replace R5 := k8.cell0 R5
  replace K := hide ((unhide K).trans k8)
  have z9 := k8.size
  clear k8
  clear hH
  refine hK.out _ _ ?_ (fun hH => ?_)
  ·exact ⟨bp0, bp1, bp2, bp3, bp4, bp5, bq0, bq1, bq2, bq3, bq4, bq5⟩
  clear hK KK
  try simp only [Act.put, zq1, zq2, zq3, zq4, zq5, zq6]
  obtain ⟨aB, dB, hv⟩ := Row.form' rB
  subst hv
  refine wpAnyH_take (i := 10) (v := .agg #[.bool S1, .slice aA P1.length dA, .int .i64 E1, .bool S2, .slice aB P2.length dB, .int .i64 E2]) rfl (by kernel_rfl) (by kernel_rfl) (by kernel_rfl) (fun _ _ _ h => h) (Or.inl ⟨by rfl, ?_⟩) hH ?_
  ·intro wq hSw
   try dsimp only at hSw
   go_simp
  try simp only [Act.put, zq1, zq2, zq3, zq4, zq5, zq6]
  refine wpAnyH_ready (rs := [11]) (by kernel_rfl) (by simp) ?_
  refine AllReadyH.cons rfl (fun KK hK => ?_) AllReadyH.nil
  simp only [zq1, zq2, zq3]
  rw [if_pos (by rfl)]
  refine wps1 19 (.tmp 25) _ rfl in_l7fits (.agg #[.bool S1, .slice aA P1.length dA, .int .i64 E1, .bool S2, .slice aB P2.length dB, .int .i64 E2]) rfl (mkf _ _ _ _ _ _ _ _ _ rA rB) ?_
  rintro e w10 h5
  obtain ⟨q1, y1, M1, q2, y2, M2, vL, vM, rfl, rL, rM, k10, hq⟩ := ivS_open h5
  have HQ := hide hq
  clear hq h5
  obtain ⟨aL, dL, hv⟩ := Row.form' rL
  subst hv
  obtain ⟨aM, dM, hv⟩ := Row.form' rM
  subst hv
  refine ⟨_, rfl, ?_⟩
  replace r1 := r1.kp k10
  replace r2 := r2.kp k10
  replace r3 := r3.kp k10
  replace r4 := r4.kp k10
  replace rA := rA.kp k10
  replace rB := rB.kp k10
  replace Rf0 := k10.loose0 (zbl R0) Rf0
  replace Rf1 := k10.loose0 (zbl R1) Rf1
  replace Rf2 := k10.loose0 (zbl R2) Rf2
  replace Rf3 := k10.loose0 (zbl R3) Rf3
  replace Rf4 := k10.loose0 (zbl R4) Rf4
  replace Rf5 := k10.loose0 (zbl R5) Rf5
  replace bp0 := k10.cell0 bp0
  replace bp1 := k10.cell0 bp1
  replace bp2 := k10.cell0 bp2
  replace bp3 := k10.cell0 bp3
  replace bp4 := k10.cell0 bp4
  replace bp5 := k10.cell0 bp5
  replace bq0 := k10.cell0 bq0
  replace bq1 := k10.cell0 bq1
  replace bq2 := k10.cell0 bq2
  replace bq3 := k10.cell0 bq3
  replace bq4 := k10.cell0 bq4
  replace bq5 := k10.cell0 bq5
  replace R0 := k10.cell0 R0
  replace R1 := k10.cell0 R1
  replace R2 := k10.cell0 R2
  replace R3 := k10.cell0 R3
  replace R4 := k10.cell0 R4
  replace R5 := k10.cell0 R5
  replace K := hide ((unhide K).trans k10)
  have z11 := k10.size
  clear k10
  clear hH
  refine hK.out _ _ ?_ (fun hH => ?_)
  ·exact ⟨bp0, bp1, bp2, bp3, bp4, bp5, bq0, bq1, bq2, bq3, bq4, bq5⟩
  clear hK KK
  try simp only [Act.put, zq1, zq2, zq3, zq4, zq5, zq6]
  refine wpAnyH_take (i := 12) (v := .agg #[.bool q1, .slice aL M1.length dL, .int .i64 y1, .bool q2, .slice aM M2.length dM, .int .i64 y2]) rfl (by kernel_rfl) (by kernel_rfl) (by kernel_rfl) (fun _ _ _ h => h) (Or.inl ⟨by rfl, ?_⟩) hH ?_
  ·intro wq hSw
   try dsimp only at hSw
   go_simp
  try simp only [Act.put, zq1, zq2, zq3, zq4, zq5, zq6]
  refine wpAnyH_take (i := 13) (v := .bool CC) rfl (by kernel_rfl) (by kernel_rfl) (by kernel_rfl) (fun _ _ _ h => h) (Or.inl ⟨by rfl, ?_⟩) hH ?_
  ·intro wq hSw
   try dsimp only at hSw
   go_simp
  try simp only [Act.put, zq1, zq2, zq3, zq4, zq5, zq6]
  refine wpAnyH_ready (rs := [14]) (by kernel_rfl) (by simp) ?_
  refine AllReadyH.cons rfl (fun KK hK => ?_) AllReadyH.nil
  simp only [zq1, zq2, zq3]
  rw [if_pos (by rfl)]
  go_simp
  clear hH
  refine hK.out _ _ ?_ (fun hH => ?_)
  ·exact ⟨(cw6 (by have := unhide S0; dsimp only; omega) bp0), (cw6 (by have := unhide S0; dsimp only; omega) bp1), (cw6 (by have := unhide S0; dsimp only; omega) bp2), (cw6 (by have := unhide S0; dsimp only; omega) bp3), (cw6 (by have := unhide S0; dsimp only; omega) bp4), (cw6 (by have := unhide S0; dsimp only; omega) bp5), (cw6 (by have := unhide S0; dsimp only; omega) bq0), (cw6 (by have := unhide S0; dsimp only; omega) bq1), (cw6 (by have := unhide S0; dsimp only; omega) bq2), (cw6 (by have := unhide S0; dsimp only; omega) bq3), (cw6 (by have := unhide S0; dsimp only; omega) bq4), (cw6 (by have := unhide S0; dsimp only; omega) bq5)⟩
  clear hK KK
  try simp only [Act.put, zq1, zq2, zq3, zq4, zq5, zq6]
  refine wpAnyH_take (i := 15) (v := .bool CC) rfl (by kernel_rfl) (by kernel_rfl) (by kernel_rfl) (fun _ _ _ h => h) (Or.inl ⟨by rfl, ?_⟩) hH ?_
  ·intro wq hSw
   try dsimp only at hSw
   go_simp
  try simp only [Act.put, zq1, zq2, zq3, zq4, zq5, zq6]
  refine wpAnyH_done (by kernel_rfl) ?_ _
  clear hH
  clear mkA mkB mkf
  have RA := hide (((((((rL.set_other (p := ⟨w.heap.size + 2, 0, none⟩) (.inl (by have := unhide S0; dsimp only; omega)) (.bool q1)).set_other (p := ⟨w.heap.size + 2, 1, none⟩) (.inl (by have := unhide S0; dsimp only; omega)) (.slice aL M1.length dL)).set_other (p := ⟨w.heap.size + 2, 2, none⟩) (.inl (by have := unhide S0; dsimp only; omega)) (.int .i64 y1)).set_other (p := ⟨w.heap.size + 2, 3, none⟩) (.inl (by have := unhide S0; dsimp only; omega)) (.bool q2)).set_other (p := ⟨w.heap.size + 2, 4, none⟩) (.inl (by have := unhide S0; dsimp only; omega)) (.slice aM M2.length dM)).set_other (p := ⟨w.heap.size + 2, 5, none⟩) (.inl (by have := unhide S0; dsimp only; omega)) (.int .i64 y2)).tight.wider (lo' := w.heap.size) (by have := unhide S0; omega) (Nat.le_refl _))
  have RB := hide (((((((rM.set_other (p := ⟨w.heap.size + 2, 0, none⟩) (.inl (by have := unhide S0; dsimp only; omega)) (.bool q1)).set_other (p := ⟨w.heap.size + 2, 1, none⟩) (.inl (by have := unhide S0; dsimp only; omega)) (.slice aL M1.length dL)).set_other (p := ⟨w.heap.size + 2, 2, none⟩) (.inl (by have := unhide S0; dsimp only; omega)) (.int .i64 y1)).set_other (p := ⟨w.heap.size + 2, 3, none⟩) (.inl (by have := unhide S0; dsimp only; omega)) (.bool q2)).set_other (p := ⟨w.heap.size + 2, 4, none⟩) (.inl (by have := unhide S0; dsimp only; omega)) (.slice aM M2.length dM)).set_other (p := ⟨w.heap.size + 2, 5, none⟩) (.inl (by have := unhide S0; dsimp only; omega)) (.int .i64 y2)).tight.wider (lo' := w.heap.size) (by have := unhide S0; omega) (Nat.le_refl _))
  have K7 := hide (((((((unhide K).setNew (p := ⟨w.heap.size + 2, 0, none⟩) (by simp) (.bool q1)).setNew (p := ⟨w.heap.size + 2, 1, none⟩) (by simp) (.slice aL M1.length dL)).setNew (p := ⟨w.heap.size + 2, 2, none⟩) (by simp) (.int .i64 y1)).setNew (p := ⟨w.heap.size + 2, 3, none⟩) (by simp) (.bool q2)).setNew (p := ⟨w.heap.size + 2, 4, none⟩) (by simp) (.slice aM M2.length dM)).setNew (p := ⟨w.heap.size + 2, 5, none⟩) (by simp) (.int .i64 y2))
  clear r1 r2 r3 r4 rA rB rL rM K
  go_wp2_with fail
  exact bodyPost_ret (v := .tuple #[.agg #[.bool q1, .slice aL M1.length dL, .int .i64 y1, .bool q2, .slice aM M2.length dM, .int .i64 y2], .bool CC]) (by simp [results, Tryd.results12, go_sem, R0, R1, R2, R3, R4, R5]) rfl (ivS_shut (unhide HQ) (unhide RA) (unhide RB) (unhide K7))

end Go.Proofs.YtkaidnomjceddaaDoor
