/-
  The walk of the law FnExactNatCmp: it returns true at every argument.
-/
import Derived.Test.YtolciidbkhkfgaaINat10
import Derived.Deep.RegionHeld3
namespace Go.Proofs.Ytolciidbkhkfgaa
open Go.RowKit
set_option linter.unusedVariables false
set_option maxRecDepth 8000

theorem wf_NatCmp {n : Int} (h : (Lit.int .i64 n).wf = true) : n ≤ 9223372036854775807 ∧ -9223372036854775808 ≤ n := by
  have e : (Lit.int .i64 n).wf = (decide (IntKind.i64.min ≤ n) && decide (n ≤ IntKind.i64.max)) := rfl
  rw [e, show IntKind.i64.min = -9223372036854775808 by decide, show IntKind.i64.max = 9223372036854775807 by decide] at h
  simp at h
  omega

set_option maxHeartbeats 4000000 in
theorem law_NatCmp {u0 : Value} {z0 : List Int} {u1 : Value} {z1 : List Int} {w : World} (r0 : Row .i64 false 0 w.heap.size w u0 z0) (b0 : ∀ z ∈ z0, (Lit.int .i64 z).wf = true) (r1 : Row .i64 false 0 w.heap.size w u1 z1) (b1 : ∀ z ∈ z1, (Lit.int .i64 z).wf = true) :
    Calls Try.prog 13 #[.agg #[u0], .agg #[u1]] w fun e w' => e = .returned (.bool true) ∧ Below w.heap.size w w' := by
  clear b0
  clear b1
  obtain ⟨a0, c0, hv0⟩ := Row.form' r0
  subst hv0
  have hm0 := r0.len
  unfold maxLen at hm0
  obtain ⟨a1, c1, hv1⟩ := Row.form' r1
  subst hv1
  have hm1 := r1.len
  unfold maxLen at hm1
  have k0 : Kept 0 0 w ((w.alloc (.cells #[.slice a0 z0.length c0] 53)).alloc (.cells #[.slice a1 z1.length c1] 53)) := (((Kept.refl 0 0 w).alloc (.cells #[.slice a0 z0.length c0] 53)).alloc (.cells #[.slice a1 z1.length c1] 53))
  have cA0 : ((w.alloc (.cells #[.slice a0 z0.length c0] 53)).alloc (.cells #[.slice a1 z1.length c1] 53)).cell? ⟨w.heap.size, 0, none⟩ = some (.slice a0 z0.length c0) := (old_cell _ (new_cell_at _ _ _ _ (by simp)))
  have cA1 : ((w.alloc (.cells #[.slice a0 z0.length c0] 53)).alloc (.cells #[.slice a1 z1.length c1] 53)).cell? ⟨w.heap.size + 1, 0, none⟩ = some (.slice a1 z1.length c1) := new_cell_at _ _ _ _ (by simp)
  replace r0 := r0.kept k0 (by omega)
  replace r1 := r1.kept k0 (by omega)
  have B := hide k0.toBelow
  have s0 : w.heap.size + 2 ≤ ((w.alloc (.cells #[.slice a0 z0.length c0] 53)).alloc (.cells #[.slice a1 z1.length c1] 53)).heap.size := by simp
  clear k0
  go_enter Try.func13, Try.ntmps13
  go_wp2_with fail
  generalize ((w.alloc (.cells #[.slice a0 z0.length c0] 53)).alloc (.cells #[.slice a1 z1.length c1] 53)) = W at *
  refine (szNat_any _ (1048576) (by omega) (by omega) r0).mono ?_
  rintro e w1 ⟨rfl, k1⟩
  replace r0 := r0.kept k1 (by omega)
  replace r1 := r1.kept k1 (by omega)
  replace cA0 := k1.cell0 cA0
  replace cA1 := k1.cell0 cA1
  have s1 := k1.size
  replace B := hide (below_step (unhide B) k1 (Nat.le_refl _) (by omega))
  clear k1
  by_cases big0 : (z0.length : Int) ≤ 1048576
  rotate_left
  · rw [if_neg big0]
    go_wp2_with fail
    go_ret
    exact ⟨rfl, unhide B⟩
  rw [if_pos big0]
  have nb0 : ¬ (1048576 - (z0.length : Int)) < 0 := by omega
  go_wp2_with fail
  refine (szNat_any _ ((1048576 - (z0.length : Int))) (by omega) (by omega) r1).mono ?_
  rintro e w2 ⟨rfl, k2⟩
  replace r0 := r0.kept k2 (by omega)
  replace r1 := r1.kept k2 (by omega)
  replace cA0 := k2.cell0 cA0
  replace cA1 := k2.cell0 cA1
  have s2 := k2.size
  replace B := hide (below_step (unhide B) k2 (Nat.le_refl _) (by omega))
  clear k2
  by_cases big1 : (z1.length : Int) ≤ (1048576 - (z0.length : Int))
  rotate_left
  · rw [if_neg big1]
    go_wp2_with fail
    go_ret
    exact ⟨rfl, unhide B⟩
  rw [if_pos big1]
  have nb1 : ¬ ((1048576 - (z0.length : Int)) - (z1.length : Int)) < 0 := by omega
  have hn0 : z0.length ≤ 1099511627776 := by omega
  have hn1 : z1.length ≤ 1099511627776 := by omega
  go_wp2_with fail
  have ra7 := r0.kept ((Kept.refl 0 0 w2).drew) (by omega)
  have rb7 := r1.kept ((Kept.refl 0 0 w2).drew) (by omega)
  go_region_held3 (fun w' => w'.cell? ⟨w.heap.size, 0, none⟩ = some (.slice a0 z0.length c0) ∧ w'.cell? ⟨w.heap.size + 1, 0, none⟩ = some (.slice a1 z1.length c1)) (first | exact ⟨cA0, cA1⟩ | exact ⟨k3.cell0 cA0, k3.cell0 cA1⟩ | exact ⟨k4.cell0 (k3.cell0 cA0), k4.cell0 (k3.cell0 cA1)⟩ | exact ⟨k5.cell0 (k4.cell0 (k3.cell0 cA0)), k5.cell0 (k4.cell0 (k3.cell0 cA1))⟩)
    ((first
      | (go_at_call_of 56 (Value.agg #[Value.slice a0 z0.length c0])
         refine (toNat_any _ hn0 ra7).mono ?_
         rintro e w3 ⟨v7, rfl, r7, k3⟩)
      | (go_at_call_of 56 (Value.agg #[Value.slice a1 z1.length c1])
         refine (toNat_any _ hn1 (rb7.kept k3 (Or.inr (Or.inr (Nat.le_refl _))))).mono ?_
         rintro e w4 ⟨v8, rfl, r8, k4⟩)
      | (go_at_call 62
         refine (natCmp_spec _ (r7.kept k4 (Or.inr (Or.inr (Nat.le_refl _)))) r8).mono ?_
         rintro e w5 ⟨rfl, k5⟩)))
  have kk := (Kept.refl 0 0 w2).drew.trans ((k3.trans k4).trans k5)
  clear k3 k4 k5 ra7 rb7 r7 r8
  replace r0 := r0.kept kk (by omega)
  replace r1 := r1.kept kk (by omega)
  replace cA0 := kk.cell0 cA0
  replace cA1 := kk.cell0 cA1
  have s5 := kk.size
  replace B := hide (below_step (unhide B) kk (Nat.le_refl _) (by omega))
  clear kk
  go_wp2_with fail
  refine (toNat_any _ hn0 r0).mono ?_
  rintro e w6 ⟨vx0, rfl, rx0, k6⟩
  replace r0 := r0.kept k6 (by omega)
  replace r1 := r1.kept k6 (by omega)
  replace cA0 := k6.cell0 cA0
  replace cA1 := k6.cell0 cA1
  have s6 := k6.size
  replace B := hide (below_step (unhide B) k6 (Nat.le_refl _) (by omega))
  clear k6
  have sx0 := rx0
  clear sx0
  obtain ⟨ax0, dx0, hv⟩ := Row.form' rx0
  subst hv
  have k7 := (Kept.refl 0 0 w6).alloc (.cells #[.slice ax0 z0.length dx0] 26)
  have cx0 : (w6.alloc (.cells #[.slice ax0 z0.length dx0] 26)).cell? ⟨w6.heap.size, 0, none⟩ = some (.slice ax0 z0.length dx0) := new_cell_at _ _ _ _ rfl
  have t7 : w6.heap.size + 1 ≤ (w6.alloc (.cells #[.slice ax0 z0.length dx0] 26)).heap.size := by simp
  replace r0 := r0.kept k7 (by omega)
  replace r1 := r1.kept k7 (by omega)
  replace rx0 := rx0.kept k7 (by omega)
  replace cA0 := k7.cell0 cA0
  replace cA1 := k7.cell0 cA1
  have s7 := k7.size
  replace B := hide (below_step (unhide B) k7 (Nat.le_refl _) (by omega))
  clear k7
  go_wp2_with fail
  generalize w6.alloc (.cells #[.slice ax0 z0.length dx0] 26) = w7 at *
  refine (toNat_any _ hn1 r1).mono ?_
  rintro e w8 ⟨vx1, rfl, rx1, k8⟩
  replace r0 := r0.kept k8 (by omega)
  replace r1 := r1.kept k8 (by omega)
  replace rx0 := rx0.kept k8 (by omega)
  replace cA0 := k8.cell0 cA0
  replace cA1 := k8.cell0 cA1
  replace cx0 := k8.cell0 cx0
  have s8 := k8.size
  replace B := hide (below_step (unhide B) k8 (Nat.le_refl _) (by omega))
  clear k8
  have sx1 := rx1
  clear sx1
  obtain ⟨ax1, dx1, hv⟩ := Row.form' rx1
  subst hv
  have k9 := (Kept.refl 0 0 w8).alloc (.cells #[.slice ax1 z1.length dx1] 26)
  have cx1 : (w8.alloc (.cells #[.slice ax1 z1.length dx1] 26)).cell? ⟨w8.heap.size, 0, none⟩ = some (.slice ax1 z1.length dx1) := new_cell_at _ _ _ _ rfl
  have t9 : w8.heap.size + 1 ≤ (w8.alloc (.cells #[.slice ax1 z1.length dx1] 26)).heap.size := by simp
  replace r0 := r0.kept k9 (by omega)
  replace r1 := r1.kept k9 (by omega)
  replace rx0 := rx0.kept k9 (by omega)
  replace rx1 := rx1.kept k9 (by omega)
  replace cA0 := k9.cell0 cA0
  replace cA1 := k9.cell0 cA1
  replace cx0 := k9.cell0 cx0
  have s9 := k9.size
  replace B := hide (below_step (unhide B) k9 (Nat.le_refl _) (by omega))
  clear k9
  go_wp2_with fail
  generalize w8.alloc (.cells #[.slice ax1 z1.length dx1] 26) = w9 at *
  refine (natCmp_impl _ rx0 rx1).mono ?_
  rintro e w10 ⟨rfl, k10⟩
  replace r0 := r0.kept k10 (by omega)
  replace r1 := r1.kept k10 (by omega)
  replace rx0 := rx0.kept k10 (by omega)
  replace rx1 := rx1.kept k10 (by omega)
  replace cA0 := k10.cell0 cA0
  replace cA1 := k10.cell0 cA1
  replace cx0 := k10.cell0 cx0
  replace cx1 := k10.cell0 cx1
  have s10 := k10.size
  replace B := hide (below_step (unhide B) k10 (Nat.le_refl _) (by omega))
  clear k10
  go_wp2_with fail
  have ra7 := r0.kept ((Kept.refl 0 0 w10).drew) (by omega)
  go_region_held3 (fun w' => w'.cell? ⟨w.heap.size, 0, none⟩ = some (.slice a0 z0.length c0) ∧ w'.cell? ⟨w6.heap.size, 0, none⟩ = some (.slice ax0 z0.length dx0)) (first | exact ⟨cA0, cx0⟩ | exact ⟨k11.cell0 cA0, k11.cell0 cx0⟩ | exact ⟨k12.cell0 (k11.cell0 cA0), k12.cell0 (k11.cell0 cx0)⟩)
    ((first
      | (go_at_call 56
         refine (toNat_any _ hn0 ra7).mono ?_
         rintro e w11 ⟨v7, rfl, r7, k11⟩)
      | (go_at_call 57
         refine (eqNat_same _ (rx0.kept ((Kept.refl 0 0 _).drew.trans k11) (Or.inr (Or.inr (Nat.le_refl _)))) r7).mono ?_
         rintro e w12 ⟨rfl, k12⟩)))
  have kk := (Kept.refl 0 0 w10).drew.trans (k11.trans k12)
  clear k11 k12 ra7 r7
  replace r0 := r0.kept kk (by omega)
  replace r1 := r1.kept kk (by omega)
  replace rx0 := rx0.kept kk (by omega)
  replace rx1 := rx1.kept kk (by omega)
  replace cA0 := kk.cell0 cA0
  replace cA1 := kk.cell0 cA1
  replace cx0 := kk.cell0 cx0
  replace cx1 := kk.cell0 cx1
  have s12 := kk.size
  replace B := hide (below_step (unhide B) kk (Nat.le_refl _) (by omega))
  clear kk
  go_wp2_with fail
  have ra7 := r1.kept ((Kept.refl 0 0 w12).drew) (by omega)
  go_region_held3 (fun w' => w'.cell? ⟨w.heap.size + 1, 0, none⟩ = some (.slice a1 z1.length c1) ∧ w'.cell? ⟨w8.heap.size, 0, none⟩ = some (.slice ax1 z1.length dx1)) (first | exact ⟨cA1, cx1⟩ | exact ⟨k13.cell0 cA1, k13.cell0 cx1⟩ | exact ⟨k14.cell0 (k13.cell0 cA1), k14.cell0 (k13.cell0 cx1)⟩)
    ((first
      | (go_at_call 56
         refine (toNat_any _ hn1 ra7).mono ?_
         rintro e w13 ⟨v7, rfl, r7, k13⟩)
      | (go_at_call 57
         refine (eqNat_same _ (rx1.kept ((Kept.refl 0 0 _).drew.trans k13) (Or.inr (Or.inr (Nat.le_refl _)))) r7).mono ?_
         rintro e w14 ⟨rfl, k14⟩)))
  have kk := (Kept.refl 0 0 w12).drew.trans (k13.trans k14)
  clear k13 k14 ra7 r7
  replace r0 := r0.kept kk (by omega)
  replace r1 := r1.kept kk (by omega)
  replace rx0 := rx0.kept kk (by omega)
  replace rx1 := rx1.kept kk (by omega)
  replace cA0 := kk.cell0 cA0
  replace cA1 := kk.cell0 cA1
  replace cx0 := kk.cell0 cx0
  replace cx1 := kk.cell0 cx1
  have s14 := kk.size
  replace B := hide (below_step (unhide B) kk (Nat.le_refl _) (by omega))
  clear kk
  go_wp2_with fail
  go_ret
  exact ⟨rfl, unhide B⟩

end Go.Proofs.Ytolciidbkhkfgaa
